"""Promise [7]: patterns of values, how they are made, what they tell, and when they are equal."""

import unittest

from calltakers.errors import BadPattern
from calltakers.patterns import (Anything, AnyCall, Begins, Between, Both, Calls, Either, Exactly, Items, Kind, Not,
                                 Pattern)
from reference import CALLS_TOLD, TOLD, identical
from samples import NO_VALUES, VALUES, Stranger

NO_PATTERNS = VALUES + NO_VALUES + [Calls("it"), Calls(None, Anything()), AnyCall(), [Anything()], (Anything(),),
                                    Anything, ("anything",), "any", Stranger()]


class Made(unittest.TestCase):

    def test_told_of_each_class(self):
        for pattern, told in TOLD:
            self.assertTrue(identical(pattern.told, told), told)
            self.assertIsInstance(pattern, Pattern)

    def test_all_stand_under_pattern_but_those_of_calls(self):
        for made in (Anything, Exactly, Kind, Between, Begins, Items, Both, Either, Not):
            self.assertTrue(issubclass(made, Pattern), made)
        for made in (Calls, AnyCall):
            self.assertFalse(issubclass(made, Pattern), made)

    def test_arguments_by_name(self):
        self.assertTrue(identical(Exactly(value=True).told, ("exactly", True)))
        self.assertEqual(Kind(kind="int").told, ("kind", "int"))
        self.assertEqual(Between(low=1, high=2).told, ("between", 1, 2))
        self.assertEqual(Between(high=None, low=1).told, ("between", 1, None))
        self.assertEqual(Between(1, high=2).told, ("between", 1, 2))
        self.assertEqual(Begins(text="ab").told, ("begins", "ab"))
        self.assertEqual(Not(pattern=Anything()).told, ("not", ("anything",)))

    def test_later_changes_have_no_effect(self):
        parts = [Exactly(1), Kind("int")]
        for made, word in ((Items, "items"), (Both, "both"), (Either, "either")):
            pattern = made(*parts)
            parts.append(Anything())
            self.assertEqual(pattern.told, (word, ("exactly", 1), ("kind", "int")))
            self.assertEqual(parts.pop(), Anything())

    def test_told_is_a_property(self):
        for made in (Anything, Exactly, Kind, Between, Begins, Items, Both, Either, Not, Calls, AnyCall):
            self.assertIsInstance(vars(made)["told"], property, made)
        with self.assertRaises(AttributeError):
            Exactly(1).told = ("anything",)


class Operators(unittest.TestCase):

    def test_both_either_not(self):
        for p, told in TOLD:
            for q, other in TOLD[::5]:
                self.assertTrue(identical((p & q).told, ("both", told, other)))
                self.assertTrue(identical((p | q).told, ("either", told, other)))
                self.assertEqual((type(p & q), type(p | q)), (Both, Either))
            self.assertTrue(identical((~p).told, ("not", told)))
            self.assertIs(type(~p), Not)

    def test_nested(self):
        p, q, r = Between(0, 9), Exactly(5), Begins("a")
        self.assertEqual((p & ~q | r).told,
                         ("either", ("both", ("between", 0, 9), ("not", ("exactly", 5))), ("begins", "a")))
        self.assertEqual((p & q & r).told,
                         ("both", ("both", ("between", 0, 9), ("exactly", 5)), ("begins", "a")))
        self.assertEqual((p | (q | r)).told,
                         ("either", ("between", 0, 9), ("either", ("exactly", 5), ("begins", "a"))))
        self.assertEqual((~~p).told, ("not", ("not", ("between", 0, 9))))
        self.assertEqual((~(p | q) & Items(p | q)).told,
                         ("both", ("not", ("either", ("between", 0, 9), ("exactly", 5))),
                          ("items", ("either", ("between", 0, 9), ("exactly", 5)))))

    def test_the_operands_stay_as_they_were(self):
        p, q = Both(Kind("int")), Either(Exactly(1))
        for made in (p & q, p | q, ~p, q & p):
            self.assertEqual((p.told, q.told), (("both", ("kind", "int")), ("either", ("exactly", 1))), made.told)

    def test_anything_else_on_the_right(self):
        for p, _ in TOLD:
            for thing in NO_PATTERNS:
                with self.assertRaises(BadPattern, msg=thing):
                    p & thing
                with self.assertRaises(BadPattern, msg=thing):
                    p | thing


class Refused(unittest.TestCase):

    def refuses(self, make, things):
        for thing in things:
            with self.assertRaises(BadPattern, msg=thing):
                make(thing)

    def test_exactly(self):
        self.refuses(Exactly, NO_VALUES + [Anything(), (Anything(),), Calls("it")])
        self.refuses(lambda thing: Exactly(value=thing), NO_VALUES)

    def test_kind(self):
        kinds = ["", "Int", "INT", "int ", " int", "integer", "str", "string", "NoneType", "None", "list", "dict",
                 "value", 0, 1, True, False, None, (), ("int",), ["int"], {"int": 1}, int, Kind("int"), b"int"]
        self.refuses(Kind, kinds)
        self.refuses(lambda thing: Kind(kind=thing), kinds)

    def test_between(self):
        bounds = [True, False, "", "1", (), (1,), [1], [], {}, 1.0, b"1", Exactly(1), Stranger()]
        for good in (None, 0, -3):
            self.refuses(lambda thing: Between(thing, good), bounds)
            self.refuses(lambda thing: Between(good, thing), bounds)
            self.refuses(lambda thing: Between(high=thing, low=good), bounds)
        self.refuses(lambda thing: Between(thing, thing), bounds)

    def test_begins(self):
        texts = [None, True, 0, 1, (), ("a",), ["a"], [], {"a": 1}, b"a", Begins("a"), Stranger()]
        self.refuses(Begins, texts)
        self.refuses(lambda thing: Begins(text=thing), texts)

    def test_not(self):
        self.refuses(Not, NO_PATTERNS)
        self.refuses(lambda thing: Not(pattern=thing), NO_PATTERNS)

    def test_items_both_either(self):
        for made in (Items, Both, Either):
            self.refuses(made, NO_PATTERNS)
            self.refuses(lambda thing: made(Anything(), thing), NO_PATTERNS)
            self.refuses(lambda thing: made(thing, Anything(), Kind("int")), NO_PATTERNS)
            self.refuses(lambda thing: made(Anything(), Exactly(1), thing), NO_PATTERNS)


class Equal(unittest.TestCase):

    def test_equal_exactly_if_told_are_the_same(self):
        patterns = TOLD + CALLS_TOLD
        for p, told in patterns:
            for q, other in patterns:
                self.assertIs(p == q, identical(told, other), (told, other))
                self.assertIs(p != q, not identical(told, other), (told, other))

    def test_made_anew(self):
        for (p, told), (q, _) in zip(TOLD, [(Pattern.of(told), told) for _, told in TOLD]):
            self.assertIsNot(p, q)
            self.assertIs(p == q, True, told)
            self.assertIs(q != p, False, told)

    def test_true_and_1_are_different_at_every_depth(self):
        for one, other in ((True, 1), (False, 0), ((1, (True,)), (1, (1,))), ((((0,),),), (((False,),),))):
            p, q = Exactly(one), Exactly(other)
            for _ in range(5):
                self.assertIs(p == q, False, (one, other))
                self.assertIs(p != q, True, (one, other))
                p, q = Both(Anything(), Not(p)), Both(Anything(), Not(q))
            self.assertIs(Calls("it", p) == Calls("it", q), False)
            self.assertIs(Calls("it", a=p) == Calls("it", a=q), False)

    def test_the_same_values_by_other_patterns_are_not_equal(self):
        for p, q in ((Between(1, 1), Exactly(1)), (Both(), Anything()), (Either(), Not(Anything())),
                     (Both(Kind("int")), Kind("int")), (Items(), Exactly(())), (Between(1, 0), Between(2, 0)),
                     (Both(Both()), Both()), (Begins(""), Kind("text")),
                     (Either(Exactly(1), Exactly(2)), Either(Exactly(2), Exactly(1))), (Not(Not(Both())), Both())):
            self.assertIs(p == q, False, (p.told, q.told))
            self.assertIs(q == p, False, (p.told, q.told))

    def test_anything_else_is_not_equal(self):
        for p, told in TOLD + CALLS_TOLD:
            for thing in [told, list(told), told[0], None, True, 1, [], {}, Stranger(), type(p)]:
                self.assertIs(p == thing, False)
                self.assertIs(p != thing, True)


if __name__ == "__main__":
    unittest.main()
