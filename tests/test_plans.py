"""Promise [10]: expectations and plans."""

import itertools
import random
import unittest

from calltakers.errors import BadCall, BadExpectation, BadPlan, NoName
from calltakers.patterns import Anything, AnyCall, Begins, Between, Both, Calls, Either, Exactly, Items, Kind, Not
from calltakers.plans import Expectation, Plan
from calltakers.values import call
from plan_reference import CALLS, NAMES, PATTERNS, plan_by, takers
from reference import CALLS_TOLD, identical
from samples import NAMES as GOOD_NAMES
from samples import NO_CALLS, NO_NAMES, NO_VALUES, VALUES, Stranger
from spoiling import spoilt
from test_call_cases import EMPTY

ANY = AnyCall()
NO_NUMBERS = [None, True, False, -1, -10 ** 39, "1", (), (1,), [1], 1.0, Stranger()]


def plan_of(*names):
    return Plan(*[Expectation(name, ANY) for name in names])


class Expectations(unittest.TestCase):

    def test_attributes(self):
        pattern = Calls("it", Between(0, 3))
        made = Expectation("low", pattern, least=1, most=3, after=["b", "a"], answer=(1, True))
        self.assertEqual((made.name, made.pattern, made.least, made.most), ("low", pattern, 1, 3))
        self.assertTrue(identical(made.after, ("b", "a")))
        self.assertTrue(identical(made.answer, (1, True)))
        self.assertIs(made.has_slack, True)
        self.assertLessEqual({"name", "pattern", "least", "most", "after", "answer"}, set(vars(made)))

    def test_defaults(self):
        made = Expectation("low", ANY)
        self.assertTrue(identical((made.least, made.most, made.after, made.answer), (1, 1, (), None)))
        self.assertIs(made.has_slack, False)

    def test_slack(self):
        for most in range(1, 5):
            for least in range(most + 1):
                made = Expectation("a", ANY, least=least, most=most)
                self.assertIs(made.has_slack, least < most)
                self.assertTrue(identical((made.least, made.most), (least, most)))

    def test_by_position_and_by_name(self):
        made = Expectation(name="a", pattern=ANY, answer=None, after=(), most=2, least=0)
        self.assertEqual((made.name, made.pattern, made.least, made.most), ("a", ANY, 0, 2))
        with self.assertRaises(TypeError):
            Expectation("a", ANY, 1)

    def test_after_is_a_tuple_whatever_was_passed(self):
        after = ["b", "a"]
        made = Expectation("c", ANY, after=after)
        after.append("x")
        after[0] = "y"
        self.assertTrue(identical(made.after, ("b", "a")))
        self.assertEqual(after, ["y", "a", "x"])
        self.assertTrue(identical(Expectation("c", ANY, after=("b", "a")).after, ("b", "a")))
        self.assertTrue(identical(Expectation("c", ANY, after=[]).after, ()))

    def test_every_name_and_answer(self):
        for name in GOOD_NAMES:
            self.assertEqual(Expectation(name, ANY).name, name)
            self.assertEqual(Expectation("a", ANY, after=[name]).after, (name,))
        for value in VALUES:
            self.assertTrue(identical(Expectation("a", ANY, answer=value).answer, value))

    def check(self, *arguments, **named):
        with self.assertRaises(BadExpectation, msg=(arguments, named)):
            Expectation(*arguments, **named)

    def test_names_that_are_none(self):
        for name in NO_NAMES + NO_VALUES:
            self.check(name, ANY)
            self.check(name=name, pattern=ANY)

    def test_patterns_of_values_and_other_things(self):
        some = [Anything(), Kind("int"), Either(), Both(), Items(), Not(Anything()), Calls, AnyCall, [ANY], (ANY,)]
        for thing in some + VALUES + NO_VALUES + [told for _, told in CALLS_TOLD]:
            self.check("a", thing)
            self.check("a", pattern=thing)

    def test_patterns_that_accept_no_call(self):
        for pattern in EMPTY + [Calls("it", Both(Kind("int"), Begins("")), Anything()),
                                Calls(None, Items(Anything(), Both(Exactly(1), Exactly(True))))]:
            self.check("a", pattern)
        Expectation("a", Calls("it", Not(Either())))

    def test_numbers(self):
        for thing in NO_NUMBERS:
            self.check("a", ANY, least=thing)
            self.check("a", ANY, least=thing, most=1)
            self.check("a", ANY, least=0, most=thing)
            self.check("a", ANY, least=1, most=thing)
        self.check("a", ANY, least=2)
        self.check("a", ANY, least=2, most=1)
        self.check("a", ANY, least=0, most=0)
        self.check("a", ANY, most=0)
        self.check("a", ANY, least=-1, most=1)
        self.check("a", ANY, least=-2, most=-1)
        self.check("a", ANY, least=9, most=8)

    def test_after(self):
        for thing in [None, 1, True, "", "a", "ab", {}, {"b": 1}, {"b"}, ["b", "b"], ("b", "c", "b"), Stranger(), b"b"]:
            self.check("a", ANY, after=thing)
        for name in NO_NAMES:
            self.check("a", ANY, after=[name])
            self.check("a", ANY, after=("b", name))

    def test_answers(self):
        for thing in NO_VALUES:
            self.check("a", ANY, answer=thing)

    def test_of_several_errors_there_is_one_only(self):
        self.check(None, None, least=None, most=None, after=None, answer=[])


class Plans(unittest.TestCase):

    def check(self, index, *expectations):
        with self.assertRaises(BadPlan) as caught:
            Plan(*expectations)
        self.assertTrue(identical(caught.exception.index, index), (index, caught.exception.index))

    def test_names(self):
        for many in range(1, 7):
            made = plan_of(*NAMES[:many])
            self.assertTrue(identical(made.names(), tuple(NAMES[:many])))

    def test_most(self):
        self.assertEqual(Plan.MOST, 6)
        self.assertEqual(plan_of("a").MOST, 6)

    def test_none_and_a_seventh(self):
        self.check(0)
        some = [Expectation(name, ANY) for name in "abcdefgh"]
        self.check(6, *some[:7])
        self.check(6, *some)
        self.check(6, *some[:6], None)
        self.check(3, *some[:3], some[0], *some[3:])

    def test_what_is_no_expectation(self):
        some = [Expectation(name, ANY) for name in "abcde"]
        things = [Expectation, ANY, [some[0]], (some[0],), some, plan_of("z"), plan_of("z").told[0], Stranger()]
        for thing in things + VALUES + NO_VALUES:
            for at in range(6):
                self.check(at, *some[:at], thing, *some[at:])

    def test_a_name_twice(self):
        some = [Expectation(name, ANY) for name in "abcd"]
        self.check(1, some[0], some[0])
        self.check(2, some[0], some[1], Expectation("a", Calls("it")), some[1])
        self.check(3, some[0], some[1], some[2], some[1])

    def test_after_earlier_ones_only(self):
        a, b = Expectation("a", ANY), Expectation("b", ANY, after=["a"])
        Plan(a, b, Expectation("c", ANY, after=["b", "a"]), Expectation("d", ANY, after=["b"]))
        self.check(0, b)
        self.check(0, b, a)
        self.check(0, Expectation("a", ANY, after=["a"]))
        self.check(1, a, Expectation("b", ANY, after=["b"]))
        self.check(1, a, Expectation("b", ANY, after=["a", "c"]), Expectation("c", ANY))
        self.check(2, a, b, Expectation("c", ANY, after=["a", "b", "z"]))
        self.check(1, a, Expectation("b", ANY, after=["z"]), None)

    def test_is_free(self):
        self.assertIs(plan_of("a", "b").is_free, True)
        self.assertIs(Plan(Expectation("a", ANY), Expectation("b", ANY, after=["a"])).is_free, False)
        first, last = Expectation("a", ANY), Expectation("c", ANY, after=("a",))
        self.assertIs(Plan(first, Expectation("b", ANY), last).is_free, False)
        self.assertIs(Plan(Expectation("a", ANY, least=0, most=4), Expectation("b", ANY, after=[])).is_free, True)

    def test_told(self):
        one = Plan(Expectation("low", Calls("it", Exactly(True)), least=0, most=4, answer=(True, 1)),
                   Expectation("high", ANY, after=["low"]),
                   Expectation("last", Calls(None, a=Kind("int")), most=2, after=["high", "low"], answer="x"))
        self.assertTrue(identical(one.told, (
            ("low", ("calls", "it", (("exactly", True),), ()), 0, 4, (), (True, 1)),
            ("high", ("anycall",), 1, 1, ("low",), None),
            ("last", ("calls", None, (), (("a", ("kind", "int")),)), 1, 2, ("high", "low"), "x"))))

    def test_a_list_that_is_changed_later(self):
        some = [Expectation("a", ANY), Expectation("b", ANY)]
        made = Plan(*some)
        some.pop()
        self.assertEqual(made.names(), ("a", "b"))

    def test_expectation(self):
        some = [Expectation(name, ANY) for name in ("b", "it", "aa")]
        made = Plan(*some)
        for one in some:
            self.assertIs(made.expectation(one.name), one)
            self.assertIs(made.expectation(name=one.name), one)
        for thing in ["c", "bb", "i", "itit", ("b",)] + VALUES + NO_VALUES + some:
            with self.assertRaises(NoName) as caught:
                made.expectation(thing)
            self.assertIs(caught.exception.name, thing)

    def test_takers(self):
        made = Plan(Expectation("zz", Calls("it", Between(0, 5))), Expectation("b", AnyCall()),
                    Expectation("a", Calls("it", Between(3, 9))))
        self.assertTrue(identical(made.takers(call("it", 4)), ("zz", "b", "a")))
        self.assertTrue(identical(made.takers(call=call("it", 9)), ("b", "a")))
        self.assertTrue(identical(made.takers(call("it")), ("b",)))
        self.assertTrue(identical(plan_of("x").takers(call("it", True)), ("x",)))
        self.assertTrue(identical(Plan(Expectation("x", Calls("it", Exactly(1)))).takers(call("it", True)), ()))

    def test_takers_of_what_is_no_call(self):
        for made in (plan_of("a"), Plan(Expectation("a", Calls("it")), Expectation("b", ANY))):
            for thing in NO_CALLS:
                with self.assertRaises(BadCall) as caught:
                    made.takers(thing)
                self.assertIs(caught.exception.path, thing)

    def test_many_plans(self):
        seed = random.Random(5)
        for count in range(1, 7):
            for _ in range(20):
                made = plan_by(seed, count, is_free=False)
                names = [row[0] for row in made.told]
                self.assertEqual(made.names(), tuple(names))
                self.assertIs(made.is_free, all(row[4] == () for row in made.told))
                for one in CALLS:
                    self.assertEqual(made.takers(one), tuple(names[index] for index in takers(made, one)))


class Equal(unittest.TestCase):

    def test_equal_as_what_they_tell(self):
        def one(answer=None, exact=1, least=1, after=("a",), name="a"):
            return Plan(Expectation(name, Calls("it", Exactly(exact)), least=least, most=2, answer=answer),
                        Expectation("b", ANY), Expectation("c", ANY, after=after))
        self.assertIs(one() == one(), True)
        self.assertIs(one() != one(), False)
        others = [one(answer=1), one(answer=True), one(answer=(1,)), one(answer=(True,)), one(exact=True), one(exact=2),
                  one(least=0), one(after=()), one(after=["a", "b"]), one(after=["b", "a"]), one(name="z", after=["z"])]
        for first, second in itertools.permutations([one()] + others, 2):
            self.assertIs(first == second, False, (first.told, second.told))
        self.assertIs(plan_of("a", "b") == plan_of("b", "a"), False)
        self.assertIs(plan_of("a", "b") == plan_of("a"), False)
        self.assertIs(one(after=["a"]) == one(after=("a",)), True)

    def test_not_equal_to_other_things(self):
        made = plan_of("a")
        for thing in [made.told, None, "a", ANY, Expectation("a", ANY), [made], Stranger()]:
            self.assertIs(made == thing, False)


class Told(unittest.TestCase):

    def test_of_what_plans_tell(self):
        seed = random.Random(4)
        for count in range(1, 7):
            for _ in range(15):
                made = plan_by(seed, count, is_free=False)
                self.assertTrue(identical(Plan.of(made.told).told, made.told))
                self.assertIs(Plan.of(told=made.told) == made, True)
                self.assertIs(type(made.of(made.told)), Plan)

    def test_every_pattern(self):
        for pattern, told in CALLS_TOLD:
            row = ("a", told, 0, 3, (), (True, 1))
            if told == ("anycall",) or ("either",) not in [pair[1] for pair in told[3]]:
                self.assertTrue(identical(Plan.of((row,)).told, (row,)))
            else:
                self.refused((row,))

    def refused(self, thing):
        with self.assertRaises(BadPlan, msg=thing) as caught:
            Plan.of(thing)
        self.assertTrue(identical(caught.exception.index, 0), thing)

    def test_what_differs_in_one_place(self):
        first = ("a", ("calls", "it", (("exactly", 1),), (("mode", ("anything",)),)), 1, 2, (), "x")
        told = (first, ("b", ("anycall",), 0, 1, ("a",), None))
        self.assertTrue(identical(Plan.of(told).told, told))
        refused = 0
        for thing in spoilt(told):
            try:
                made = Plan.of(thing)
            except BadPlan as error:
                self.assertTrue(identical(error.index, 0), thing)
                refused += 1
            else:
                # What is a plan all the same tells just this.
                self.assertTrue(identical(made.told, thing), thing)
        self.assertGreater(refused, 1000)

    def test_rows_that_make_no_plan(self):
        good = ("a", ("anycall",), 1, 1, (), None)
        for thing in [(), (good, good), ((),), (good, ()), (good[:5],), (good + (None,),), good, [good], (list(good),),
                      (good, None), ((None,) + good[1:],), (("a", ("anything",)) + good[2:],),
                      (("a", ("calls", "it", (("either",),), ())) + good[2:],), (good[:2] + (True, 1, (), None),),
                      (good[:2] + (1, True, (), None),), (good[:2] + (0, 0, (), None),), (good[:2] + (2, 1, (), None),),
                      (good[:2] + (-1, 1, (), None),), (good[:4] + ([], None),), (good[:4] + (("a",), None),),
                      (good[:4] + (("z",), None),), (good, ("b",) + good[1:4] + (("a", "a"), None)),
                      (good, ("b",) + good[1:4] + (["a"], None)), (good, ("b",) + good[1:4] + ("a", None)),
                      (good[:5] + ([],),), (("self",) + good[1:],), (("a", AnyCall()) + good[2:],),
                      (("a", ["anycall"]) + good[2:],), (Expectation("a", ANY),),
                      tuple((name,) + good[1:] for name in "abcdefg")]:
            self.refused(thing)
        self.assertEqual(Plan.of(tuple((name,) + good[1:] for name in "abcdef")).names(), tuple("abcdef"))

    def test_other_things(self):
        for thing in VALUES + NO_VALUES + [plan_of("a"), Expectation("a", ANY), ANY, Plan, list(plan_of("a").told)]:
            self.refused(thing)


class Classes(unittest.TestCase):

    def check(self, made, sets=None):
        found = made.classes()
        self.assertIs(type(found), list)
        names = made.names()
        indexes = []
        for pair in found:
            self.assertTrue(type(pair) is tuple and len(pair) == 2 and type(pair[0]) is tuple)
            self.assertEqual(pair[0], tuple(names[index] for index in takers(made, pair[1])))
            self.assertEqual(made.takers(pair[1]), pair[0])
            indexes.append([names.index(name) for name in pair[0]])
        self.assertEqual(indexes, sorted(indexes))
        self.assertEqual(len(indexes), len(set(map(tuple, indexes))))
        if sets is not None:
            self.assertEqual([pair[0] for pair in found], sets)
        return indexes

    def test_those_that_occur(self):
        low, high = Expectation("z", Calls("it", Between(0, 5))), Expectation("a", Calls("it", Between(3, 9)))
        self.check(Plan(low, high), [(), ("z",), ("z", "a"), ("a",)])
        self.check(Plan(low, high, Expectation("m", ANY)), [("z", "a", "m"), ("z", "m"), ("a", "m"), ("m",)])
        self.check(plan_of("a"), [("a",)])
        self.check(plan_of("b", "a"), [("b", "a")])
        self.check(Plan(Expectation("a", Calls(None))), [(), ("a",)])
        rest = Expectation("b", Calls("it", Not(Between(0, 5))))
        self.check(Plan(low, rest, Expectation("c", Calls("it", Anything()))), [(), ("z", "c"), ("b", "c")])

    def test_many_plans(self):
        seed = random.Random(3)
        for count in range(1, 7):
            for _ in range(15):
                made = plan_by(seed, count, is_free=False)
                indexes = self.check(made)
                for one in CALLS:
                    self.assertIn(takers(made, one), indexes)

    def test_all_patterns_apart(self):
        for count in (1, 3, 6):
            for some in itertools.combinations(PATTERNS[:8], count):
                self.check(Plan(*[Expectation(name, pattern) for name, pattern in zip(NAMES, some)]))

    def test_a_new_list_each_time(self):
        made = Plan(Expectation("a", Calls("it")), Expectation("b", ANY))
        found = made.classes()
        kept = list(found)
        found.append(None)
        found[0] = None
        self.assertTrue(identical(made.classes(), kept))
        self.assertIsNot(made.classes(), made.classes())

    def test_numbers_and_orders_have_no_meaning(self):
        one = Plan(Expectation("a", Calls("it"), least=0, most=4), Expectation("b", ANY, after=["a"], answer=1))
        self.assertEqual([pair[0] for pair in one.classes()], [("a", "b"), ("b",)])


if __name__ == "__main__":
    unittest.main()
