"""Promise [17]: which expectations could take which calls, and when answers are certain; with [2] (h)."""

import itertools
import random
import unittest

from calltakers.certainty import answers, certain_at, could_take
from calltakers.errors import BadRecord, Lost, NoIndex
from calltakers.patterns import AnyCall, Between, Calls
from calltakers.plans import Expectation, Plan
from calltakers.values import call
from plan_reference import CALLS, holds, plan_by, record_by, takers
from reference import identical
from samples import NO_CALLS, Stranger

LOW, HIGH = Expectation("low", Calls("it", Between(0, 5))), Expectation("high", Calls("it", Between(3, 9)))
PLAN = Plan(LOW, HIGH)
NO_INDEXES = [None, True, False, -1, -2, 10 ** 39, "0", "", (), (0,), [0], {}, 0.0, Stranger()]


def beginnings(plan, record):
    """How the calls of a record are taken in all assignments of all records that begin with them, as indexes."""
    rows = plan.told
    some_call = {index: made for _, made in plan.classes() for index in takers(plan, made)}
    found = []
    for indexes in itertools.product(*[takers(plan, made) for made in record]):
        more = sum(row[3] for row in rows) - len(record)
        rests = (rest for many in range(more + 1) for rest in itertools.product(range(len(rows)), repeat=many))
        if any(holds(plan, record + [some_call[index] for index in rest], indexes + rest) for rest in rests):
            found.append(indexes)
    return found


def in_order(values):
    """Whether values ascend and are different, as [5] says."""
    ranks = {type(None): 0, bool: 1, int: 2, str: 3, tuple: 4}

    def key(value):
        inner = [key(item) for item in value] if type(value) is tuple else 0 if value is None else value
        return (ranks[type(value)], inner)
    return all(key(one) < key(other) for one, other in zip(values, values[1:]))


class Against(unittest.TestCase):

    def check(self, plan, record):
        """All three functions on a record that some kept record begins with, against the search."""
        names = plan.names()
        ways = beginnings(plan, record)
        if not ways:
            for index in [0, len(record)] + NO_INDEXES:
                with self.assertRaises(Lost):
                    could_take(plan, record, index)
            for function in (answers, certain_at):
                with self.assertRaises(Lost):
                    function(plan, record)
            return "lost"
        left = []
        for index in range(len(record)):
            expected = tuple(names[at] for at in sorted({way[index] for way in ways}))
            self.assertTrue(identical(could_take(plan, record, index), expected), (plan.told, record, index))
            self.assertTrue(identical(could_take(plan=plan, record=tuple(record), index=index), expected))
            left.append([plan.expectation(name).answer for name in expected])
        found = answers(plan, record)
        self.assertTrue(identical(answers(plan=plan, record=tuple(record)), found))
        self.assertEqual(len(found), len(record))
        for some, all_of_them in zip(found, left):
            self.assertTrue(in_order(some), some)
            self.assertTrue(all(any(identical(one, other) for other in all_of_them) for one in some))
            self.assertTrue(all(any(identical(one, other) for other in some) for one in all_of_them))
        self.check_certain(plan, record)
        return "single" if all(len(some) == 1 for some in found) else "several"

    def check_certain(self, plan, record):
        behind = [beginnings(plan, record[:many]) for many in range(len(record) + 1)]
        expected = []
        for index in range(len(record)):
            counts = []
            for many in range(index + 1, len(record) + 1):
                some = [plan.told[way[index]][5] for way in behind[many]]
                if all(identical(one, some[0]) for one in some):
                    counts.append(many)
            expected.append(counts[0] if counts else None)
        self.assertTrue(identical(certain_at(plan, record), expected), (plan.told, record))
        self.assertTrue(identical(certain_at(plan=plan, record=tuple(record)), expected))

    def test_small_plans(self):
        seed = random.Random(71)
        words = []
        for count, most in ((1, 3), (2, 2), (2, 3), (3, 2)):
            for is_free in (True, False, False):
                tried = 0
                while tried < 40:
                    plan = plan_by(seed, count, is_free=is_free, least=1, most=most)
                    if sum(row[3] for row in plan.told) <= 5:
                        tried += 1
                        words.append(self.check(plan, record_by(seed, 3, CALLS[:5])))
                        words.append(self.check(plan, [seed.choice(plan.classes())[1] for _ in range(2)]))
        for word in ("lost", "single", "several"):
            self.assertGreater(words.count(word), 60, word)

    def test_example(self):
        plan = Plan(Expectation("any", AnyCall(), answer=1), Expectation("bare", Calls("it"), answer=2))
        self.assertEqual((answers(plan, [call("it")]), certain_at(plan, [call("it"), call("other")])),
                         ([[1, 2]], [2, 2]))
        self.assertEqual(could_take(plan, [call("it")], 0), ("any", "bare"))
        self.assertEqual(could_take(plan, [call("it"), call("other")], 0), ("bare",))
        self.assertEqual(could_take(plan, [call("it"), call("it")], 0), ("any", "bare"))
        self.assertEqual(certain_at(plan, [call("it"), call("it")]), [None, None])
        self.assertEqual(certain_at(plan, [call("other"), call("it")]), [1, 2])

    def test_in_the_order_of_the_plan(self):
        plan = Plan(*[Expectation(name, AnyCall(), most=2) for name in ("z", "b", "it", "a")])
        self.assertEqual(could_take(plan, [call("x")], 0), ("z", "b", "it", "a"))
        self.assertEqual(could_take(plan, [call("x"), call("y")], 1), ("z", "b", "it", "a"))

    def test_no_calls(self):
        self.assertEqual((answers(PLAN, []), certain_at(PLAN, [])), ([], []))
        with self.assertRaises(NoIndex):
            could_take(PLAN, [], 0)

    def test_the_leasts_need_not_be_reached(self):
        plan = Plan(Expectation("a", Calls("it"), least=2, most=2, answer=1), Expectation("b", Calls("it"), answer=2),
                    Expectation("c", Calls("c"), least=3, most=3))
        self.assertEqual(answers(plan, [call("it")]), [[1, 2]])
        self.assertEqual(certain_at(plan, [call("it"), call("c")]), [None, 2])

    def test_orders_between_expectations(self):
        plan = Plan(Expectation("a", Calls("it"), least=0, most=2, answer="a"),
                    Expectation("b", AnyCall(), most=2, after=["a"], answer="b"))
        it, other = call("it"), call("other")
        self.assertEqual(answers(plan, [it, it]), [["a", "b"], ["a", "b"]])
        self.assertEqual(certain_at(plan, [it, it]), [None, None])
        self.assertEqual(certain_at(plan, [it, it, it]), [3, None, 3])
        self.assertEqual(certain_at(plan, [it, it, it, other]), [3, 4, 3, 4])
        self.assertEqual(certain_at(plan, [it, other, it]), [3, 2, 3])

    def test_later_calls_decide_in_a_chain(self):
        plan = Plan(*[Expectation(name, Calls("it", Between(at, at + 1)), answer=at) for at, name in enumerate("abcd")])
        record = [call("it", 1), call("it", 2), call("it", 3), call("it", 4)]
        self.assertEqual(answers(plan, record[:3]), [[0, 1], [1, 2], [2, 3]])
        self.assertEqual(certain_at(plan, record[:3]), [None] * 3)
        self.assertEqual(certain_at(plan, record), [4, 4, 4, 4])


class Answers(unittest.TestCase):

    def answers_of(self, *values):
        """The answers that are left for a call that all of these could answer."""
        plan = Plan(*[Expectation(name, AnyCall(), answer=value) for name, value in zip("abcdef", values)])
        return answers(plan, [call("it")])[0]

    def test_the_order_of_values(self):
        for values in ([None, False, True, -1, 0, 1], [1, 2, "", "1", "a", ()], [None, True, 5, "b", (), (None,)],
                       [(), (0,), (0, 0), (1,), (1, 0), ((),)], [(True,), (1,), ("a",), ((True,),), ((1,),)]):
            for some in (values, values[::-1], values[::2] + values[1::2]):
                self.assertTrue(identical(self.answers_of(*some), values), some)

    def test_one_and_true_are_different(self):
        for one, other in ((True, 1), (False, 0), ((True,), (1,)), ((0, (False,)), (0, (0,))),
                           (((((True,),),),), ((((1,),),),))):
            self.assertTrue(identical(self.answers_of(other, one), [one, other]))
            self.assertTrue(identical(self.answers_of(one, other, one, other), [one, other]))
            plan = Plan(Expectation("a", AnyCall(), answer=one), Expectation("b", AnyCall(), answer=other))
            self.assertEqual(certain_at(plan, [call("it")]), [None])

    def test_equal_answers_of_several(self):
        for value in (None, False, 0, "", (), (1, (True, ("a",)))):
            self.assertTrue(identical(self.answers_of(value, value, value), [value]))
            plan = Plan(Expectation("a", AnyCall(), answer=value), Expectation("b", AnyCall(), answer=value))
            self.assertEqual(certain_at(plan, [call("it")]), [1])
            self.assertEqual(could_take(plan, [call("it")], 0), ("a", "b"))

    def test_deep_answers(self):
        one, other = 1, True
        for _ in range(10):
            one, other = (one,), (other,)
        self.assertTrue(identical(self.answers_of(one, other, one), [other, one]))

    def test_new_lists_at_every_depth(self):
        found = answers(PLAN, [call("it", 4), call("it", 4)])
        self.assertIs(type(found), list)
        self.assertEqual([type(some) for some in found], [list, list])
        self.assertIsNot(found[0], found[1])
        found[0].append("x")
        found.pop()
        self.assertEqual(answers(PLAN, [call("it", 4), call("it", 4)]), [[None], [None]])
        certain = certain_at(PLAN, [call("it", 4)])
        certain.append(None)
        self.assertEqual(certain_at(PLAN, [call("it", 4)]), [1])


class Refused(unittest.TestCase):

    def functions(self, record):
        return (lambda: could_take(PLAN, record, 0), lambda: could_take(PLAN, record, None),
                lambda: answers(PLAN, record), lambda: certain_at(PLAN, record))

    def test_no_index(self):
        for record in ([call("it", 4)], [call("it", 4), call("it", 4)]):
            for index in NO_INDEXES + [len(record), len(record) + 1, -len(record)]:
                with self.assertRaises(NoIndex, msg=index):
                    could_take(PLAN, record, index)

    def test_lost_ahead_of_no_index(self):
        for record in ([call("x")], [call("it", 9), call("it", 8)], [call("it", 4)] * 3):
            for index in NO_INDEXES + [0, len(record)]:
                with self.assertRaises(Lost):
                    could_take(PLAN, record, index)
            for function in (answers, certain_at):
                with self.assertRaises(Lost):
                    function(PLAN, record)

    def test_bad_record_ahead_of_lost(self):
        for thing in NO_CALLS:
            for record, index in (([thing], 0), ([call("x"), thing], 1), ([call("it", 4), call("it", 4), thing, 3], 2)):
                for function in self.functions(record):
                    with self.assertRaises(BadRecord) as caught:
                        function()
                    self.assertEqual(caught.exception.index, index)

    def test_what_is_no_list(self):
        for record in (None, 1, True, "", "it", {}, {0: call("it", 4)}, {call("it", 4)}, PLAN, Stranger()):
            for function in self.functions(record):
                with self.assertRaises(BadRecord) as caught:
                    function()
                self.assertEqual(caught.exception.index, 0)

    def test_nothing_is_changed(self):
        record, told = [call("it", 4), call("it", 8)], PLAN.told
        for function in self.functions(record)[:1] + self.functions(record)[2:]:
            function()
        self.assertEqual(record, [call("it", 4), call("it", 8)])
        self.assertTrue(identical(PLAN.told, told))


class Limits(unittest.TestCase):

    def test_sixteen_calls(self):
        names = "abcdef"
        plan = Plan(*[Expectation(name, AnyCall(), least=0, most=3, answer=at // 3) for at, name in enumerate(names)])
        record = [call("it", at) for at in range(16)]
        self.assertEqual(certain_at(plan, record), [None] * 16)
        self.assertEqual(answers(plan, record), [[0, 1]] * 16)
        self.assertEqual(could_take(plan, record, 15), tuple(names))
        chain = Plan(*[Expectation(name, AnyCall(), least=3, most=3, answer=at, after=list(names[:at]))
                       for at, name in enumerate(names)])
        self.assertEqual(certain_at(chain, record), list(range(1, 17)))


if __name__ == "__main__":
    unittest.main()
