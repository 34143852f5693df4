"""Promise [14]: conflicts, the narrowest rule, and what can be spared; with [2] (e)."""

import itertools
import random
import unittest

from calltakers.errors import BadRecord, Conflicted, NoConflict, NotFree
from calltakers.patterns import AnyCall, Between, Calls, Exactly, Kind, Not
from calltakers.plans import Expectation, Plan
from calltakers.rules import Opponent, conflict, narrowest, spared
from calltakers.values import call, is_call
from plan_reference import (ALL_CALLS, CALLS, PATTERNS, all_records, assignments, holds, is_kept, meet, plan_by,
                            record_by, takers, within)
from reference import identical

LOW, HIGH = Expectation("low", Calls("it", Between(0, 2))), Expectation("high", Calls("it", Between(1, 3)))
INNER = Expectation("inner", Calls("it", Exactly(1)), least=0)
NESTED = [Calls("it", Exactly(2)), Calls("it", Between(2, 4)), Calls("it", Kind("int")), AnyCall(), AnyCall(),
          Calls("it"), Calls("it", Exactly(0)), Calls("it", Exactly(0))]


def conflicts(plan):
    """The words and indexes of all conflicts, in the order of the document, of plans of PATTERNS."""
    rows = plan.told
    places = range(len(rows))
    crosses = [("cross", one, other) for one, other in itertools.combinations(places, 2)
               if meet(plan, one, other) and not within(plan, one, other) and not within(plan, other, one)]
    slacks = [("slack", one, other) for one in places for other in places
              if within(plan, one, other) and not within(plan, other, one)
              and rows[one][2] < rows[one][3] and rows[other][2] > 0]
    return crosses + slacks


def small_plans(number, counts=(1, 2, 3, 4, 5), many=30):
    seed = random.Random(number)
    found = []
    for count in counts:
        for patterns in (PATTERNS, NESTED):
            found.extend([plan_by(seed, count, patterns=patterns, least=seed.choice([0, 1, 2])) for _ in range(many)])
    return found


def narrow(plan, record):
    """What the narrowest rule gives, by the words of the document."""
    rows, taken, found = plan.told, [0] * len(plan.told), []
    for made in record:
        ready = [index for index in takers(plan, made) if taken[index] < rows[index][3]]
        if not ready:
            break
        least = [index for index in ready if all(within(plan, index, other) for other in ready)]
        below = [index for index in least if taken[index] < rows[index][2]]
        chosen = (below or least)[0]
        taken[chosen] += 1
        found.append(rows[chosen][0])
    return tuple(found)


class Conflicts(unittest.TestCase):

    def check(self, plan):
        known = conflicts(plan)
        found = conflict(plan)
        self.assertTrue(identical(conflict(plan=plan), found))
        self.assertEqual(found is None, known == [], plan.told)
        if found is None:
            return
        self.assertTrue(type(found) is tuple and len(found) == 4 and type(found[3]) is tuple)
        word, first, other, calls = found
        one, two = known[0][1:]
        self.assertEqual((word, first, other), (known[0][0], plan.told[one][0], plan.told[two][0]))
        self.assertEqual(len(calls), 3 if word == "cross" else 2)
        self.assertTrue(all(map(is_call, calls)))
        accepting = [set(takers(plan, made)) & {one, two} for made in calls]
        self.assertEqual(accepting, [{one, two}, {one}, {two}] if word == "cross" else [{one, two}, {two}])

    def test_cross(self):
        self.assertEqual(conflict(Plan(LOW, HIGH))[:3], ("cross", "low", "high"))
        self.assertEqual(conflict(Plan(HIGH, LOW))[:3], ("cross", "high", "low"))
        self.assertEqual(conflict(Plan(LOW, HIGH))[3][1:], (call("it", 0), call("it", 3)))
        self.assertIn(conflict(Plan(LOW, HIGH))[3][0], (call("it", 1), call("it", 2)))
        self.assertIsNone(conflict(Plan(LOW)))
        self.assertIsNone(conflict(Plan(LOW, Expectation("apart", Calls("it", Between(3, 9))))))

    def test_slack(self):
        self.assertEqual(conflict(Plan(INNER, LOW))[:3], ("slack", "inner", "low"))
        self.assertEqual(conflict(Plan(LOW, INNER))[:3], ("slack", "inner", "low"))
        self.assertEqual(conflict(Plan(LOW, INNER))[3][0], call("it", 1))
        self.assertIn(conflict(Plan(LOW, INNER))[3][1], (call("it", 0), call("it", 2)))

    def test_slack_needs_all_that_it_needs(self):
        inner, outer = Calls("it", Exactly(1)), Calls("it", Between(0, 2))
        for one, other, is_conflict in [
                (Expectation("a", inner, least=0, most=1), Expectation("b", outer, least=1, most=1), True),
                (Expectation("a", inner, least=1, most=2), Expectation("b", outer, least=1, most=4), True),
                (Expectation("a", inner, least=1, most=1), Expectation("b", outer, least=1, most=1), False),
                (Expectation("a", inner, least=2, most=2), Expectation("b", outer, least=1, most=3), False),
                (Expectation("a", inner, least=0, most=2), Expectation("b", outer, least=0, most=3), False),
                (Expectation("a", inner, least=0, most=2), Expectation("b", inner, least=1, most=3), False),
                (Expectation("a", inner, least=0, most=2), Expectation("b", Calls("it", Exactly(2))), False),
                (Expectation("a", outer, least=0, most=2), Expectation("b", inner, least=1, most=1), False)]:
            for plan in (Plan(one, other), Plan(other, one)):
                self.assertEqual(conflict(plan) is not None, is_conflict, plan.told)

    def test_crosses_before_slacks(self):
        plan = Plan(INNER, LOW, HIGH)
        self.assertEqual(conflict(plan)[:3], ("cross", "low", "high"))
        plan = Plan(Expectation("x", AnyCall()), INNER, HIGH, LOW)
        self.assertEqual(conflict(plan)[:3], ("cross", "high", "low"))

    def test_the_first_by_indexes(self):
        some = [LOW, HIGH, Expectation("top", Calls("it", Between(2, 4))), INNER]
        for order in itertools.permutations(some):
            self.check(Plan(*order))
        slacks = [Expectation(name, pattern, least=1, most=2) for name, pattern in zip("abcd", NESTED)]
        for order in itertools.permutations(slacks):
            self.check(Plan(*order))

    def test_many(self):
        plans = small_plans(31)
        for plan in plans:
            self.check(plan)
        words = [(conflicts(plan) or [("none",)])[0][0] for plan in plans]
        for word in ("cross", "slack", "none"):
            self.assertGreater(words.count(word), 30)


class Narrowest(unittest.TestCase):

    def test_example(self):
        plan = Plan(Expectation("any", AnyCall()), Expectation("bare", Calls("it")))
        self.assertEqual(narrowest(plan, [call("it"), call("it"), call("it")]), ("bare", "any"))
        self.assertEqual(narrowest(plan=plan, record=(call("it"), call("x"))), ("bare", "any"))
        self.assertEqual(narrowest(plan, [call("x"), call("x"), call("it")]), ("any",))
        self.assertEqual(narrowest(plan, []), ())
        self.assertIsNone(conflict(plan))

    def test_equal_patterns(self):
        def two(least, most, other_least, other_most):
            return Plan(Expectation("a", Calls("it"), least=least, most=most),
                        Expectation("b", Calls("it"), least=other_least, most=other_most))
        for plan, names in [(two(0, 1, 0, 1), "ab"), (two(0, 2, 0, 2), "aabb"), (two(0, 2, 1, 2), "baab"),
                            (two(1, 3, 1, 1), "abaa"), (two(1, 2, 2, 2), "abba"), (two(2, 2, 2, 3), "aabbb"),
                            (two(0, 3, 3, 3), "bbbaaa"), (two(0, 1, 2, 2), "bba")]:
            for many in range(len(names) + 2):
                self.assertEqual(narrowest(plan, [call("it")] * many), tuple(names[:many]))

    def test_narrower_ones_without_room_do_not_count(self):
        plan = Plan(Expectation("c", AnyCall(), least=1, most=2), Expectation("b", Calls("it", Kind("int")), least=1),
                    Expectation("a", Calls("it", Exactly(1)), least=2, most=2))
        self.assertEqual(narrowest(plan, [call("it", 1)] * 6), ("a", "a", "b", "c", "c"))
        self.assertEqual(narrowest(plan, [call("it", 2), call("it", 1), call("it", 2), call("x"), call("it", 1)]),
                         ("b", "a", "c", "c", "a"))

    def test_against_the_words(self):
        seed = random.Random(33)
        tried = 0
        for plan in small_plans(32):
            record = record_by(seed, 8, ALL_CALLS)
            if conflicts(plan):
                with self.assertRaises(Conflicted):
                    narrowest(plan, record)
            else:
                tried += 1
                found = narrowest(plan, record)
                self.assertTrue(identical(found, narrow(plan, record)), (plan.told, record))
                self.assertTrue(identical(narrowest(plan, tuple(record)), found))
        self.assertGreater(tried, 60)

    def test_the_fact(self):
        tried = 0
        for plan in small_plans(34, (1, 2, 3), 60):
            if not conflicts(plan) and sum(row[3] for row in plan.told) <= 5:
                for record in all_records([pair[1] for pair in plan.classes()], 5):
                    if is_kept(plan, record):
                        tried += 1
                        indexes = [plan.names().index(name) for name in narrowest(plan, record)]
                        self.assertEqual(len(indexes), len(record), (plan.told, record))
                        self.assertTrue(holds(plan, record, indexes), (plan.told, record))
        self.assertGreater(tried, 1000)


class Spared(unittest.TestCase):

    def check(self, plan):
        found = spared(plan)
        self.assertTrue(type(found) is tuple and identical(spared(plan=plan), found))
        names = plan.names()
        for many in range(len(names)):
            for some in itertools.combinations(names, many):
                left = Plan(*[plan.expectation(name) for name in names if name not in some])
                if conflict(left) is None:
                    self.assertEqual(found, some, plan.told)
                    return

    def test_small_ones(self):
        self.assertEqual(spared(Plan(LOW)), ())
        self.assertEqual(spared(Plan(LOW, HIGH)), ("low",))
        self.assertEqual(spared(Plan(HIGH, LOW)), ("high",))
        self.assertEqual(spared(Plan(INNER, HIGH, LOW)), ("inner", "high"))
        self.assertEqual(spared(Plan(HIGH, Expectation("apart", Calls("x")), LOW, INNER)), ("high", "low"))
        star = [Expectation(name, Calls("it", Exactly(at)), least=0) for at, name in enumerate("abc")]
        self.assertEqual(spared(Plan(*star, Expectation("z", Calls("it", Between(0, 3))))), ("z",))

    def test_many(self):
        for plan in small_plans(35, (1, 2, 3, 4, 5, 6), 20):
            self.check(plan)


class Refused(unittest.TestCase):

    late = Expectation("late", AnyCall(), after=["low"])

    def test_not_free(self):
        for plan in (Plan(LOW, self.late), Plan(LOW, HIGH, self.late), Plan(LOW, HIGH, INNER, self.late)):
            for function in (conflict, spared, Opponent):
                with self.assertRaises(NotFree):
                    function(plan)
                with self.assertRaises(NotFree):
                    function(plan=plan)
            for record in ([], [call("it")], [None], None):
                with self.assertRaises(NotFree):
                    narrowest(plan, record)

    def test_bad_record_ahead_of_conflicted(self):
        for plan in (Plan(LOW), Plan(LOW, HIGH)):
            for record, index in (([call("it"), 1], 1), (None, 0), ([call("it")] * 5 + [[]], 5)):
                with self.assertRaises(BadRecord) as caught:
                    narrowest(plan, record)
                self.assertEqual(caught.exception.index, index)

    def test_conflicted(self):
        for plan in (Plan(LOW, HIGH), Plan(INNER, LOW), Plan(LOW, INNER)):
            for record in ([], [call("it", 1)], [call("x")]):
                with self.assertRaises(Conflicted):
                    narrowest(plan, record)

    def test_no_conflict(self):
        for plan in (Plan(LOW), Plan(Expectation("a", Calls("it", Not(Exactly(1)))), Expectation("b", AnyCall()))):
            with self.assertRaises(NoConflict):
                Opponent(plan)

    def test_nothing_is_changed(self):
        plan = Plan(LOW, INNER, HIGH)
        told, record = plan.told, [call("it", 1), call("it", 0)]
        conflict(plan)
        spared(plan)
        narrowest(Plan(LOW), record)
        self.assertTrue(identical(plan.told, told))
        self.assertEqual(record, [call("it", 1), call("it", 0)])


if __name__ == "__main__":
    unittest.main()
