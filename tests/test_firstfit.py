"""Promise [13]: first fit, and orders that are right; with [2] (d)."""

import itertools
import random
import unittest

from calltakers.assigning import assigned
from calltakers.errors import BadRecord, NotFree
from calltakers.firstfit import first_fit, righted, trap, wrong_pair
from calltakers.patterns import AnyCall, Between, Calls, Exactly, Kind
from calltakers.plans import Expectation, Plan
from calltakers.values import call, is_call
from plan_reference import CALLS, all_records, assignments, holds, meet, plan_by, record_by, takers, within
from reference import identical

LOW = Expectation("low", Calls("it", Between(0, 5)), least=0)
HIGH = Expectation("high", Calls("it", Between(3, 9)), least=0)
INNER = Expectation("inner", Calls("it", Between(1, 2)), least=0, most=2)


def fitted(plan, record):
    """What first fit gives, by the words of the document."""
    taken, found = [0] * len(plan.told), []
    for made in record:
        ready = [index for index in takers(plan, made) if taken[index] < plan.told[index][3]]
        if not ready:
            break
        taken[ready[0]] += 1
        found.append(plan.told[ready[0]][0])
    return tuple(found)


def wrong(plan):
    """The pairs of indexes of which the first one stands wrong before the second one."""
    return [(one, other) for one, other in itertools.combinations(range(len(plan.told)), 2)
            if meet(plan, one, other) and not within(plan, one, other)]


def small_plans(number):
    seed = random.Random(number)
    return [plan_by(seed, count, least=0, most=most) for count in (1, 2, 3, 4, 5, 6) for most in (1, 2, 3)
            for _ in range(12)]


class FirstFit(unittest.TestCase):

    def test_up_to_the_first_call_without_room(self):
        plan = Plan(LOW, HIGH)
        self.assertEqual(first_fit(plan, []), ())
        self.assertEqual(first_fit(plan, [call("it", 4), call("it", 4)]), ("low", "high"))
        self.assertEqual(first_fit(plan, [call("it", 4), call("it", 2)]), ("low",))
        self.assertEqual(first_fit(plan, [call("it", 4), call("it", 2), call("it", 8)]), ("low",))
        self.assertEqual(first_fit(plan, [call("it", 7), call("it", 4), call("it", 4)]), ("high", "low"))
        self.assertEqual(first_fit(plan, [call("other"), call("it", 4)]), ())
        self.assertEqual(first_fit(plan=plan, record=(call("it", 7), call("it", 1))), ("high", "low"))

    def test_against_the_words(self):
        seed = random.Random(21)
        for plan in small_plans(20):
            for _ in range(3):
                record = record_by(seed, 7)
                found = first_fit(plan, record)
                self.assertTrue(identical(found, fitted(plan, record)), (plan.told, record))
                self.assertTrue(identical(first_fit(plan, tuple(record)), found))

    def test_the_fact(self):
        seed = random.Random(22)
        for count, most in ((1, 2), (2, 1), (2, 2), (3, 1)):
            for _ in range(12):
                plan = plan_by(seed, count, least=0, most=most)
                room = sum(row[3] for row in plan.told)
                if wrong_pair(plan) is None:
                    for record in all_records(CALLS[:5], min(room, 4)):
                        is_whole = len(first_fit(plan, record)) == len(record)
                        self.assertEqual(is_whole, bool(assignments(plan, record)), (plan.told, record))


class WrongPair(unittest.TestCase):

    def check(self, plan):
        pairs = wrong(plan)
        found = wrong_pair(plan)
        self.assertTrue(identical(wrong_pair(plan=plan), found))
        self.assertEqual(found is None, pairs == [], plan.told)
        if found is not None:
            self.assertTrue(type(found) is tuple and len(found) == 4)
            name, other, both, alone = found
            one, two = pairs[0]
            self.assertEqual((name, other), (plan.told[one][0], plan.told[two][0]))
            self.assertTrue(is_call(both) and is_call(alone))
            self.assertLessEqual({one, two}, set(takers(plan, both)))
            self.assertIn(one, takers(plan, alone))
            self.assertNotIn(two, takers(plan, alone))

    def test_small_ones(self):
        self.assertIsNone(wrong_pair(Plan(LOW)))
        self.assertIsNone(wrong_pair(Plan(INNER, LOW)))
        self.assertIsNone(wrong_pair(Plan(INNER, HIGH)))
        self.assertEqual(wrong_pair(Plan(LOW, INNER))[:2], ("low", "inner"))
        self.assertEqual(wrong_pair(Plan(LOW, HIGH))[:2], ("low", "high"))
        self.assertEqual(wrong_pair(Plan(HIGH, INNER, LOW))[:2], ("high", "low"))
        same = Expectation("same", Calls("it", Between(0, 5)), least=0)
        self.assertIsNone(wrong_pair(Plan(LOW, same)))
        self.assertEqual(wrong_pair(Plan(Expectation("any", AnyCall(), least=0), LOW, INNER))[:2], ("any", "low"))

    def test_the_first_by_the_indexes_of_the_two(self):
        patterns = [AnyCall(), Calls("it", Kind("int")), Calls("it", Between(0, 2)), Calls("it", Exactly(1))]
        some = [Expectation(name, pattern, least=0) for name, pattern in zip("dcba", patterns)]
        for order in itertools.permutations(some):
            self.check(Plan(*order))

    def test_many(self):
        plans = small_plans(23)
        for plan in plans:
            self.check(plan)
        self.assertGreater(len([plan for plan in plans if wrong(plan)]), 40)
        self.assertGreater(len([plan for plan in plans if not wrong(plan)]), 40)


class Trap(unittest.TestCase):

    def check(self, plan):
        found = trap(plan)
        self.assertEqual(found is None, wrong(plan) == [], plan.told)
        if found is not None:
            self.assertIs(type(found), list)
            word, names = assigned(plan, found)
            self.assertEqual(word, "kept")
            self.assertTrue(holds(plan, found, [plan.names().index(name) for name in names]))
            self.assertLess(len(fitted(plan, found)), len(found))
            self.assertLess(len(first_fit(plan, found)), len(found))
            again = trap(plan=plan)
            self.assertTrue(identical(again, found))
            again.clear()
            self.assertTrue(identical(trap(plan), found))

    def test_small_ones(self):
        self.assertIsNone(trap(Plan(LOW)))
        self.assertIsNone(trap(Plan(INNER, LOW)))
        for some in itertools.permutations([LOW, HIGH, INNER, Expectation("any", AnyCall(), least=0, most=3)]):
            for many in (2, 3, 4):
                self.check(Plan(*some[:many]))

    def test_large_mosts(self):
        some = [Expectation(name, Calls("it", Between(at, 2 + at)), least=0, most=8) for at, name in enumerate("abc")]
        for order in itertools.permutations(some):
            self.check(Plan(*order))

    def test_many(self):
        for plan in small_plans(24):
            self.check(plan)


class Righted(unittest.TestCase):

    def check(self, plan):
        told = plan.told
        found = righted(plan)
        self.assertTrue(identical(plan.told, told))
        pairs = itertools.combinations(range(len(told)), 2)
        crossing = [1 for one, other in pairs
                    if meet(plan, one, other) and not within(plan, one, other) and not within(plan, other, one)]
        self.assertEqual(found is None, crossing != [], told)
        if found is not None:
            self.assertIs(type(found), Plan)
            self.assertEqual(sorted(map(repr, found.told)), sorted(map(repr, told)))
            self.assertEqual(wrong(found), [])
            self.assertIsNone(wrong_pair(found))
            self.assertTrue(identical(righted(plan=plan).told, found.told))

    def test_small_ones(self):
        self.assertEqual(righted(Plan(LOW, INNER)).names(), ("inner", "low"))
        self.assertEqual(righted(Plan(INNER, LOW)).names(), ("inner", "low"))
        self.assertIsNone(righted(Plan(LOW, HIGH)))
        self.assertIsNone(righted(Plan(LOW, HIGH, INNER)))
        same = Expectation("same", Calls("it", Between(0, 5)), least=0)
        for order in itertools.permutations([LOW, same, INNER]):
            self.assertEqual(righted(Plan(*order)).names()[0], "inner")

    def test_all_of_the_expectation_is_kept(self):
        plan = Plan(Expectation("any", AnyCall(), least=0, most=5, answer=(1, True)), INNER)
        found = righted(plan)
        self.assertEqual(found.names(), ("inner", "any"))
        for name in ("any", "inner"):
            row = [row for row in plan.told if row[0] == name]
            self.assertTrue(identical([row for row in found.told if row[0] == name], row))

    def test_all_orders(self):
        chain = [Expectation("d", AnyCall(), least=0), Expectation("c", Calls("it", Kind("int")), least=0, most=2),
                 Expectation("b", Calls("it", Between(0, 2)), least=0), Expectation("x", Calls("other"), least=0),
                 Expectation("a", Calls("it", Exactly(1)), least=0, most=3)]
        for order in itertools.permutations(chain):
            self.check(Plan(*order))

    def test_many(self):
        for plan in small_plans(25):
            self.check(plan)


class Refused(unittest.TestCase):

    def test_not_free_for_leasts_and_orders(self):
        late = Expectation("late", AnyCall(), least=0, after=["low"])
        for plan in (Plan(LOW, late), Plan(LOW, HIGH, late), Plan(Expectation("a", AnyCall())),
                     Plan(LOW, Expectation("a", AnyCall(), least=1, most=2)), Plan(Expectation("a", AnyCall()), LOW),
                     Plan(LOW, Expectation("a", AnyCall(), least=2, most=2), late)):
            for record in ([], [call("it", 1)], [None], None):
                with self.assertRaises(NotFree):
                    first_fit(plan, record)
            for function in (wrong_pair, trap, righted):
                with self.assertRaises(NotFree):
                    function(plan)

    def test_records(self):
        for thing, index in (([call("it", 8), call("other"), None], 2), (None, 0), ([1], 0)):
            with self.assertRaises(BadRecord) as caught:
                first_fit(Plan(LOW), thing)
            self.assertEqual(caught.exception.index, index)


if __name__ == "__main__":
    unittest.main()
