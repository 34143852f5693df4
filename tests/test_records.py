"""Promise [11]: records, their assignments, and what comes behind what."""

import itertools
import random
import unittest

from calltakers.assigning import assigned, is_crowded, is_needy, may_take
from calltakers.errors import BadRecord
from calltakers.firstfit import first_fit
from calltakers.patterns import AnyCall, Between, Calls, Exactly
from calltakers.plans import Expectation, Plan, is_assignment
from calltakers.rules import narrowest
from calltakers.states import is_refusal, ordered, reached
from calltakers.values import call
from plan_reference import all_records, assignments, plan_by, record_by
from reference import identical
from samples import NO_CALLS, NO_VALUES, VALUES, Stranger
from spoiling import spoilt

ANY = AnyCall()
IT = call("it")


def plan_of(*rows):
    """A plan of rows (name, least, most, after), each for any call."""
    return Plan(*[Expectation(name, ANY, least=least, most=most, after=after) for name, least, most, after in rows])


class Assignments(unittest.TestCase):

    def check(self, plan, many, good):
        """Of a record of so many calls just these are assignments, each written as a text of names of one letter."""
        record = [IT] * many
        for names in itertools.product(plan.names(), repeat=many):
            self.assertIs(is_assignment(plan, record, names), "".join(names) in good, names)
            self.assertIs(is_assignment(plan=plan, record=tuple(record), thing=names), "".join(names) in good, names)

    def test_numbers(self):
        plan = plan_of(("a", 1, 2, ()), ("b", 0, 1, ()))
        self.check(plan, 0, [])
        self.check(plan, 1, ["a"])
        self.check(plan, 2, ["aa", "ab", "ba"])
        self.check(plan, 3, ["aab", "aba", "baa"])
        self.check(plan, 4, [])
        self.check(plan_of(("a", 0, 1, ())), 0, [""])
        self.check(plan_of(("a", 2, 3, ())), 1, [])

    def test_orders(self):
        plan = plan_of(("a", 0, 2, ()), ("b", 0, 2, ["a"]))
        self.check(plan, 0, [""])
        self.check(plan, 2, ["aa", "ab", "bb"])
        self.check(plan, 3, ["aab", "abb"])
        self.check(plan, 4, ["aabb"])

    def test_orders_that_go_from_one_to_the_next(self):
        plan = plan_of(("a", 0, 1, ()), ("b", 0, 1, ["a"]), ("c", 0, 1, ["b"]))
        self.check(plan, 1, ["a", "b", "c"])
        self.check(plan, 2, ["ab", "ac", "bc"])
        self.check(plan, 3, ["abc"])
        long = plan_of(("a", 0, 1, ()), ("b", 0, 1, ["a"]), ("c", 0, 1, ["b"]), ("d", 0, 1, ["c"]))
        self.check(long, 2, ["ab", "ac", "ad", "bc", "bd", "cd"])

    def test_orders_that_part_and_meet(self):
        plan = plan_of(("a", 1, 1, ()), ("b", 0, 1, ["a"]), ("c", 0, 1, ["a"]), ("d", 1, 1, ["b", "c"]))
        self.check(plan, 2, ["ad"])
        self.check(plan, 3, ["abd", "acd"])
        self.check(plan, 4, ["abcd", "acbd"])

    def test_patterns(self):
        plan = Plan(Expectation("a", Calls("it", Between(0, 1)), most=2), Expectation("b", Calls("it", Exactly(1))))
        record = [call("it", 1), call("it", 0), call("it", 1)]
        self.assertIs(is_assignment(plan, record, ("a", "a", "b")), True)
        self.assertIs(is_assignment(plan, record, ("b", "a", "a")), True)
        self.assertIs(is_assignment(plan, record, ("a", "b", "a")), False)
        self.assertIs(is_assignment(plan, [call("it", True), call("it", 1)], ("a", "b")), False)
        self.assertIs(is_assignment(plan, [call("it", 0), call("it", 1)], ("a", "b")), True)

    def test_all_tuples_of_small_plans(self):
        seed = random.Random(1)
        for count in (1, 2, 3):
            for _ in range(25):
                plan = plan_by(seed, count, is_free=False)
                for many in (0, 1, 2, 3, 4):
                    record = record_by(seed, many)
                    good = assignments(plan, record)
                    for names in itertools.product(plan.names(), repeat=len(record)):
                        self.assertIs(is_assignment(plan, record, names), names in good, (plan.told, record, names))

    def test_what_differs_in_one_place(self):
        seed = random.Random(2)
        tried = 0
        while tried < 20:
            plan = plan_by(seed, 3, is_free=False)
            record = record_by(seed, 4)
            for names in assignments(plan, record)[:2]:
                tried += 1
                good = assignments(plan, record)
                for thing in spoilt(names):
                    expected = any(identical(thing, one) for one in good)
                    self.assertIs(is_assignment(plan, record, thing), expected, (plan.told, record, thing))

    def test_other_things(self):
        plan = plan_of(("a", 0, 2, ()))
        for thing in NO_VALUES + VALUES + [["a"], {"a"}, {"a": 1}, "a", (("a",),), (["a"],), plan, Stranger()]:
            self.assertIs(is_assignment(plan, [IT], thing), False, thing)
        self.assertIs(is_assignment(plan, [IT], ("a",)), True)
        self.assertIs(is_assignment(plan, [], ()), True)
        self.assertIs(is_assignment(plan, [], []), False)


class Records(unittest.TestCase):
    """BadRecord, from every function that takes a record."""

    plan = Plan(Expectation("a", ANY, least=0, most=3), Expectation("b", Calls("it"), least=0))
    late = Plan(Expectation("a", ANY), Expectation("b", Calls("it"), after=["a"]))

    def functions(self, thing):
        found = [lambda: is_assignment(self.plan, thing, ()), lambda: is_assignment(self.late, thing, None),
                 lambda: is_assignment(plan=self.plan, record=thing, thing=("a",)),
                 lambda: reached(self.plan, thing), lambda: reached(self.late, thing),
                 lambda: ordered(self.plan, thing), lambda: ordered(self.late, record=thing),
                 lambda: is_refusal(self.plan, thing, []), lambda: is_refusal(self.late, thing, None),
                 lambda: assigned(self.plan, thing), lambda: assigned(plan=self.plan, record=thing),
                 lambda: is_crowded(self.plan, thing, (0,)), lambda: is_crowded(self.plan, thing, None),
                 lambda: is_needy(self.plan, thing, ("a",)), lambda: is_needy(self.plan, thing, None),
                 lambda: may_take(self.plan, thing, 0), lambda: may_take(self.plan, thing, None),
                 lambda: first_fit(self.plan, thing), lambda: narrowest(self.plan, record=thing)]
        return found

    def check(self, thing, index):
        for function in self.functions(thing):
            with self.assertRaises(BadRecord, msg=thing) as caught:
                function()
            self.assertTrue(identical(caught.exception.index, index), (thing, index, caught.exception.index))

    def test_the_first_item_that_is_no_call(self):
        for thing in NO_CALLS:
            for at in range(4):
                self.check([IT] * at + [thing], at)
        for made in (list, tuple):
            self.check(made([IT, None, IT]), 1)
            self.check(made([IT, IT, "it", None]), 2)
            self.check(made([IT] * 16 + [[]]), 16)

    def test_what_is_no_list(self):
        for thing in [None, 1, True, "", "it", {}, {0: IT}, {IT}, b"", Stranger(), self.plan, ANY, 1.0]:
            self.check(thing, 0)
        # A call is a tuple, but its items are no calls.
        self.check(IT, 0)
        self.check([[IT]], 0)

    def test_lists_and_tuples(self):
        for record in all_records([IT, call("other")], 3):
            for function, other in zip(self.functions(record), self.functions(tuple(record))):
                outcomes = []
                for one in (function, other):
                    try:
                        outcomes.append(one())
                    except ValueError as error:
                        outcomes.append(type(error))
                self.assertEqual(*outcomes)


if __name__ == "__main__":
    unittest.main()
