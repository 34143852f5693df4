"""Promise [12]: assignments of free plans, crowded and needy sets; with [2] (c)."""

import itertools
import random
import unittest

from calltakers.assigning import assigned, is_crowded, is_needy, may_take
from calltakers.errors import BadRecord, NoIndex, NotFree, NotKept
from calltakers.patterns import AnyCall, Between, Calls, Exactly
from calltakers.plans import Expectation, Plan, is_assignment
from calltakers.values import call
from plan_reference import CALLS, all_records, assignments, plan_by, record_by, takers
from reference import identical
from samples import NO_VALUES, VALUES, Stranger

LOW, HIGH = Expectation("low", Calls("it", Between(0, 5))), Expectation("high", Calls("it", Between(3, 9)))
PLAN = Plan(LOW, HIGH)
ORDERED = Plan(LOW, Expectation("z", AnyCall(), after=["low"]))
NO_INDEXES = [None, True, False, -1, 2, 3, 10 ** 39, -2, "0", (), (0,), [0], {}, 0.0, Stranger()]


def parts(some):
    """All tuples of some of these things, in their order."""
    return [part for many in range(len(some) + 1) for part in itertools.combinations(some, many)]


def crowded(plan, record, indexes):
    """Whether a set of indexes is crowded, by the words of the document."""
    accepting = {taker for at in indexes for taker in takers(plan, record[at])}
    return sum(plan.told[taker][3] for taker in accepting) < len(indexes)


def needy(plan, record, names):
    """Whether a set of names is needy, by the words of the document."""
    rows = [index for index, row in enumerate(plan.told) if row[0] in names]
    accepted = [made for made in record if set(rows) & set(takers(plan, made))]
    return sum(plan.told[index][2] for index in rows) > len(accepted)


class Assigned(unittest.TestCase):

    def check(self, plan, record):
        found = assigned(plan, record)
        self.assertTrue(identical(assigned(plan, tuple(record)), found))
        self.assertTrue(identical(assigned(plan=plan, record=record), found))
        self.assertTrue(type(found) is tuple and len(found) == 2 and type(found[1]) is tuple)
        good = assignments(plan, record)
        all_crowded = [some for some in parts(range(len(record))) if crowded(plan, record, some)]
        all_needy = [some for some in parts(plan.names()) if needy(plan, record, some)]
        self.assertEqual(bool(good), not all_crowded and not all_needy)
        if good:
            self.assertEqual(found, ("kept", good[0]))
            self.assertIs(is_assignment(plan, record, found[1]), True)
            return "kept"
        word, some = found
        wanted, known = ("crowded", all_crowded) if all_crowded else ("needy", all_needy)
        self.assertEqual(word, wanted, (plan.told, record))
        self.assertIn(some, known)
        for part in parts(some):
            self.assertIs(part in known, part == some, (plan.told, record, some, part))
        return word

    def test_example(self):
        self.assertEqual(assigned(PLAN, [call("it", 4), call("it", 2)]), ("kept", ("high", "low")))
        self.assertEqual(assigned(PLAN, [call("it", 8), call("it", 9)]), ("crowded", (0, 1)))

    def test_small_ones(self):
        self.assertEqual(assigned(PLAN, []), ("needy", ("low",)))
        self.assertEqual(assigned(PLAN, [call("it", 4)]), ("needy", ("low", "high")))
        self.assertEqual(assigned(PLAN, [call("it", 4), call("it", 4)]), ("kept", ("low", "high")))
        self.assertEqual(assigned(PLAN, [call("it", 4), call("it")]), ("crowded", (1,)))
        self.assertEqual(assigned(PLAN, [call("it", 1), call("it", 4), call("it", 8)]), ("crowded", (0, 1, 2)))
        self.assertEqual(assigned(Plan(Expectation("a", AnyCall(), least=0)), []), ("kept", ()))

    def test_crowded_ahead_of_needy(self):
        plan = Plan(Expectation("b", Calls("b")), Expectation("a", Calls("a"), least=1, most=2))
        self.assertEqual(assigned(plan, [call("b"), call("b")]), ("crowded", (0, 1)))
        self.assertEqual(assigned(plan, [call("b"), call("c")]), ("crowded", (1,)))
        self.assertEqual(assigned(plan, [call("b")]), ("needy", ("a",)))

    def test_no_part_is_crowded(self):
        # The whole record is crowded and stays so without some of its calls; only one set of three is minimal.
        plan = Plan(Expectation("a", Calls("a"), most=2), Expectation("b", Calls("b"), most=2))
        record = [call("b"), call("a"), call("a"), call("b"), call("a")]
        self.assertEqual(assigned(plan, record), ("crowded", (1, 2, 4)))

    def test_against_a_search(self):
        seed = random.Random(12)
        words = []
        for count in (1, 2, 3, 4):
            for _ in range(60):
                plan = plan_by(seed, count)
                for _ in range(3):
                    words.append(self.check(plan, record_by(seed, 6)))
        for word in ("kept", "crowded", "needy"):
            self.assertGreater(words.count(word), 50)

    def test_six_expectations(self):
        seed = random.Random(13)
        for _ in range(20):
            plan = plan_by(seed, 6, least=1, most=2)
            self.check(plan, [seed.choice(CALLS) for _ in range(5)])

    def test_all_small_records(self):
        seed = random.Random(14)
        for _ in range(6):
            plan = plan_by(seed, 2, least=2, most=2)
            for record in all_records(CALLS[:4], 4):
                self.check(plan, record)

    def test_the_limits(self):
        some = [Expectation(name, Calls("it", Between(at, 9)), least=1, most=8) for at, name in enumerate("abcd")]
        plan = Plan(*some)
        kept = [call("it", 3), call("it", 2), call("it", 1), call("it", 0)] + [call("it", 9)] * 12
        self.assertEqual(assigned(plan, kept)[0], "kept")
        self.assertEqual(assigned(plan, [call("it", 0)] * 9 + kept[:7]), ("crowded", tuple(range(9))))
        self.assertEqual(assigned(plan, [call("it", 1)] * 16), ("needy", ("c",)))


class Sets(unittest.TestCase):

    def test_against_the_words(self):
        seed = random.Random(15)
        found = []
        for count in (1, 2, 3):
            for _ in range(40):
                plan = plan_by(seed, count)
                record = record_by(seed, 5)
                for some in parts(range(len(record))):
                    found.append(is_crowded(plan, record, some))
                    self.assertIs(found[-1], crowded(plan, record, some))
                for some in parts(plan.names()):
                    found.append(is_needy(plan, record, some))
                    self.assertIs(found[-1], needy(plan, record, some))
        self.assertGreater(found.count(True), 200)
        self.assertGreater(found.count(False), 200)

    def test_not_minimal(self):
        record = [call("it", 8), call("it", 9), call("it", 7)]
        for some in ((0, 1), (0, 2), (1, 2), (0, 1, 2)):
            self.assertIs(is_crowded(PLAN, record, some), True)
            self.assertIs(is_crowded(plan=PLAN, record=tuple(record), thing=some), True)
        for some in ((), (0,), (1,), (2,)):
            self.assertIs(is_crowded(PLAN, record, some), False)
        self.assertIs(is_needy(PLAN, [], ("low",)), True)
        self.assertIs(is_needy(PLAN, [], ("high",)), True)
        self.assertIs(is_needy(plan=PLAN, record=(), thing=("low", "high")), True)
        self.assertIs(is_needy(PLAN, [call("it", 1)], ("low",)), False)
        self.assertIs(is_needy(PLAN, [call("it", 1)], ("low", "high")), True)
        self.assertIs(is_needy(PLAN, [], ()), False)

    def test_tuples_that_do_not_ascend(self):
        record = [call("it", 8), call("it", 9), call("it", 7)]
        for some in ((1, 0), (0, 0), (0, 1, 1), (0, 2, 1), (0, 1, 3), (-1, 0, 1), (0, 1, -1), (-3, -2), (1, 10 ** 39),
                     (0, True), (False, 1), (False, True), (0, True, 2), (0, None), (0, "1"), ("0", "1"), (0, (1,)),
                     (0, 1, None), ((0, 1),), (0.0, 1), (0, 1.0)):
            self.assertIs(is_crowded(PLAN, record, some), False, some)
        for some in (("high", "low"), ("low", "low"), ("low", "high", "high"), ("low", "z"), ("z",), ("low", None),
                     (0,), (0, 1), (True,), (("low",),), ("Low",), ("low", "high", "z"), ("", "low"), (["low"],)):
            self.assertIs(is_needy(PLAN, [], some), False, some)

    def test_other_things(self):
        record = [call("it", 8), call("it", 9)]
        for thing in NO_VALUES + VALUES + [[0, 1], {0, 1}, {0: 1, 1: 1}, range(2), "01", ["low"], "low", {"low"}, PLAN]:
            if not identical(thing, (0, 1)):
                self.assertIs(is_crowded(PLAN, record, thing), False, thing)
                self.assertIs(is_crowded(PLAN, [], thing), False, thing)
            self.assertIs(is_needy(PLAN, [], thing), False, thing)


class MayTake(unittest.TestCase):

    def test_against_a_search(self):
        seed = random.Random(16)
        kept = 0
        for count in (1, 2, 3, 4):
            for _ in range(60):
                plan = plan_by(seed, count, least=1)
                record = record_by(seed, 5, CALLS[:4])
                good = assignments(plan, record)
                if not good:
                    for index in [0, 1, len(record)] + NO_INDEXES:
                        with self.assertRaises(NotKept):
                            may_take(plan, record, index)
                    continue
                kept += 1
                for index in range(len(record)):
                    found = may_take(plan, record, index)
                    self.assertIs(type(found), dict)
                    taking = {names[index] for names in good}
                    self.assertEqual(list(found), [name for name in plan.names() if name in taking])
                    for name, names in found.items():
                        self.assertIn(names, good)
                        self.assertEqual(names[index], name)
                    self.assertTrue(identical(list(may_take(plan=plan, record=tuple(record), index=index).items()),
                                              list(found.items())))
                for index in [len(record), -1 - len(record)] + [thing for thing in NO_INDEXES if thing not in (2, 3)]:
                    with self.assertRaises(NoIndex):
                        may_take(plan, record, index)
        self.assertGreater(kept, 40)

    def test_ascending(self):
        plan = Plan(Expectation("z", AnyCall()), Expectation("b", AnyCall()), Expectation("a", AnyCall()))
        record = [call("x"), call("y"), call("z")]
        for index in range(3):
            self.assertEqual(list(may_take(plan, record, index)), ["z", "b", "a"])

    def test_a_new_dict_each_time(self):
        record = [call("it", 4), call("it", 4)]
        found = may_take(PLAN, record, 0)
        found.clear()
        self.assertEqual(list(may_take(PLAN, record, 0)), ["low", "high"])

    def test_not_kept_ahead_of_no_index(self):
        for index in [0, 1] + NO_INDEXES:
            with self.assertRaises(NotKept):
                may_take(PLAN, [], index)
            with self.assertRaises(NotKept):
                may_take(PLAN, [call("other")], index)

    def test_no_index(self):
        for index in NO_INDEXES:
            with self.assertRaises(NoIndex):
                may_take(PLAN, [call("it", 4), call("it", 4)], index)
        with self.assertRaises(NoIndex):
            may_take(Plan(Expectation("a", AnyCall(), least=0)), [], 0)


class Refused(unittest.TestCase):

    def test_not_free_ahead_of_all(self):
        for record in ([call("it", 1)], [], [None], None, "x"):
            for function in (lambda: assigned(ORDERED, record), lambda: is_crowded(ORDERED, record, (0,)),
                             lambda: is_needy(ORDERED, record, None), lambda: may_take(ORDERED, record, 0),
                             lambda: may_take(ORDERED, record, None)):
                with self.assertRaises(NotFree):
                    function()

    def test_bad_record_ahead_of_all_else(self):
        for record, index in (([call("it", 1), None], 1), (None, 0), ([3], 0)):
            for function in (lambda: assigned(PLAN, record), lambda: is_crowded(PLAN, record, []),
                             lambda: is_needy(PLAN, record, []), lambda: may_take(PLAN, record, "x"),
                             lambda: may_take(PLAN, record, 0)):
                with self.assertRaises(BadRecord) as caught:
                    function()
                self.assertEqual(caught.exception.index, index)

    def test_nothing_is_changed(self):
        record = [call("it", 4), call("it", 2)]
        told = PLAN.told
        for function in (lambda: assigned(PLAN, record), lambda: may_take(PLAN, record, 0),
                         lambda: is_crowded(PLAN, record, (0,)), lambda: is_needy(PLAN, record, ("low",))):
            function()
            self.assertEqual(record, [call("it", 4), call("it", 2)])
            self.assertTrue(identical(PLAN.told, told))


if __name__ == "__main__":
    unittest.main()
