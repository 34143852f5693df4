"""Promise [9], of patterns of values, and [2] (a): what is contained in what, and what meets."""

import itertools
import random
import unittest

from calltakers.cases import common, example
from calltakers.errors import BadPattern
from calltakers.patterns import Anything, AnyCall, Begins, Between, Both, Calls, Either, Exactly, Items, Kind, Not
from calltakers.patterns import Pattern
from calltakers.values import is_value
from plenty import UNIVERSE, pattern_by
from reference import TOLD, identical, told_accepts
from samples import NO_VALUES, VALUES, Stranger

NOTHING = [Either(), Not(Anything()), Not(Both()), Between(3, 2), Both(Kind("int"), Kind("bool")), Items(Either()),
           Items(Anything(), Between(1, 0)), Both(Items(), Items(Anything())), Both(Exactly(1), Exactly(True)),
           Both(Begins("a"), Begins("b")), Either(Either(), Between(1, 0)), Items(Items(Items(Either()))),
           Both(Between(0, 3), Between(4, 9)), Both(Between(0, None), Between(None, -1)),
           Both(Begins("a"), Exactly("")), Both(Kind("text"), Not(Begins(""))),
           Both(Kind("int"), Not(Between(None, None))),
           Both(Exactly((1, 2)), Items(Anything(), Exactly(3))), Both(Kind("none"), Not(Exactly(None))),
           Both(Kind("bool"), Not(Exactly(False)), Not(Exactly(True))), Both(Exactly(()), Not(Items()))]


class Cases(unittest.TestCase):

    def check(self, one, outside, is_some=None):
        """What example returns is accepted as it should be, and None only where nothing known is."""
        found = example(one, outside=outside)
        told, others = one.told, [pattern.told for pattern in outside]
        if found is None:
            for value in UNIVERSE:
                good = told_accepts(told, value) and not any(told_accepts(other, value) for other in others)
                self.assertFalse(good, (told, others, value))
        else:
            self.assertTrue(type(found) is tuple and len(found) == 1 and is_value(found[0]), found)
            self.assertTrue(told_accepts(told, found[0]), (told, found))
            for other in others:
                self.assertFalse(told_accepts(other, found[0]), (told, other, found))
        if is_some is not None:
            self.assertEqual(found is not None, is_some, (told, others, found))
        self.assertTrue(identical(example(one, outside=outside), found))
        self.assertTrue(identical(example(one, outside=tuple(outside)), found))

    def check_common(self, one, other, is_some=None):
        found = common(one, other)
        if found is None:
            for value in UNIVERSE:
                self.assertFalse(told_accepts(one.told, value) and told_accepts(other.told, value), value)
        else:
            self.assertTrue(type(found) is tuple and len(found) == 1 and is_value(found[0]), found)
            self.assertTrue(told_accepts(one.told, found[0]) and told_accepts(other.told, found[0]), found)
        if is_some is not None:
            self.assertEqual(found is not None, is_some, (one.told, other.told, found))
        self.assertTrue(identical(common(one, other), found))
        self.assertTrue(identical(common(one=one, other=other), found))


class Examples(Cases):

    def test_of_one_pattern(self):
        for pattern, told in TOLD:
            empty = told in [("between", 3, 0), ("either",), ("not", ("anything",))]
            self.check(pattern, [], not empty)
            self.check(pattern, [Either()], not empty)
            self.check(pattern, [pattern], False)
            self.check(pattern, [Not(pattern)], not empty)
            self.check(Not(pattern), [pattern], pattern.told not in
                       [("anything",), ("both",), ("not", ("not", ("anything",)))])
            self.check(pattern, [Anything()], False)
            self.check(Items(pattern), [], not empty)

    def test_nothing(self):
        for pattern in NOTHING:
            self.check(pattern, [], False)
            self.check(Not(pattern), [], True)
            self.check(Anything(), [pattern], True)
            self.check(Items(Anything(), pattern), [], False)
            self.check_common(pattern, Anything(), False)
            self.check_common(Anything(), pattern, False)
            self.assertIsNone(example(pattern))
            self.assertIsNone(example(one=pattern, outside=()))

    def test_exactly_one_value(self):
        for value in VALUES + [((1, (True, None)), "a"), "%d", "\n"]:
            self.assertTrue(identical(example(Exactly(value)), (value,)))
            self.check(Exactly(value), [Exactly(value)], False)
            self.check(Anything(), [Exactly(value)], True)
            self.assertTrue(identical(common(Exactly(value), Anything()), (value,)))
            self.assertTrue(identical(common(Anything(), Exactly(value)), (value,)))
            for other in VALUES:
                self.check(Exactly(value), [Exactly(other)], not identical(value, other))
                self.check_common(Exactly(value), Exactly(other), identical(value, other))

    def test_every_kind(self):
        kinds = ["none", "bool", "int", "text", "tuple"]
        for many in range(6):
            for some in itertools.combinations(kinds, many):
                self.check(Anything(), [Kind(kind) for kind in some], many < 5)
                self.check(Not(Either(*map(Kind, some))), [], many < 5)
                for kind in kinds:
                    self.check(Kind(kind), [Kind(other) for other in some], kind not in some)
        self.assertEqual(example(Kind("none")), (None,))
        self.assertEqual(example(Kind("bool"), outside=[Exactly(False)]), (True,))
        self.assertEqual(example(Kind("bool"), outside=[Exactly(True)]), (False,))

    def test_integers_next_to_every_bound(self):
        for low, high in itertools.product([None, -2, 0, 3, 10 ** 39], repeat=2):
            for one in (Between(low, high), Both(Kind("int"), Not(Between(low, high)))):
                for bound in (-2, 0, 3, 10 ** 39, -10 ** 39):
                    for near in (bound - 1, bound, bound + 1):
                        inside = told_accepts(one.told, near)
                        self.check(one, [Not(Exactly(near))], inside)
                        self.check_common(one, Exactly(near), inside)
                        # All but one integer are outside, below it and above it.
                        self.check(one, [Between(None, near - 1), Between(near + 1, None)], inside)

    def test_integers_beyond_all_bounds(self):
        some = [Between(-5, 3), Exactly(4), Exactly(-6), Between(6, 10 ** 39)]
        self.assertEqual(example(Between(-6, 10 ** 39), outside=some), (5,))
        self.check(Between(6, None), some, True)
        self.check(Between(None, 4), some, True)
        self.check(Kind("int"), some + [Exactly(5)], True)
        self.check(Kind("int"), some + [Between(5, None)], True)
        self.check(Kind("int"), some + [Between(5, None), Between(None, -6)], False)
        self.check(Kind("int"), [Between(None, 0), Between(1, None)], False)
        self.check(Kind("int"), [Between(None, 0), Between(2, None)], True)
        self.check(Kind("int"), [Between(None, 0), Between(3, 3), Between(2, 1), Between(4, None)], True)

    def test_low_above_high(self):
        for low, high in ((1, 0), (3, -3), (10 ** 39, 0)):
            self.check(Between(low, high), [], False)
            self.check(Kind("int"), [Between(low, high)], True)
            self.check(Exactly(low), [Between(low, high)], True)

    def test_strings_behind_every_beginning(self):
        for begun in ("", "a", "ab", "\n", "a" * 30):
            self.check(Begins(begun), [], True)
            self.check(Begins(begun), [Exactly(begun)], True)
            self.check(Begins(begun), [Begins(begun)], False)
            self.check(Begins(begun), [Begins(begun + "a"), Begins(begun + "b")], True)
            self.check(Begins(begun), [Exactly(begun), Begins(begun + "a"), Exactly(begun + "b")], True)
            self.check(Begins(begun + "a"), [Begins(begun)], False)
            self.check_common(Begins(begun), Begins(begun + "ab"), True)
            self.check_common(Begins(begun + "a"), Begins(begun + "b"), False)
            self.check_common(Begins(begun + "a"), Exactly(begun), False)
            self.check_common(Begins(begun), Exactly(begun), True)
        self.check(Kind("text"), [Begins("")], False)
        self.check(Kind("text"), [Begins("a"), Exactly("")], True)

    def test_the_empty_string(self):
        letters = [Begins(chr(code)) for code in range(32, 127)] + [Begins("\n")]
        self.assertEqual(common(Kind("text"), Exactly("")), ("",))
        self.assertEqual(example(Both(Begins(""), *map(Not, letters[:30]))), example(Begins(""), outside=letters[:30]))
        self.assertEqual(example(Exactly(""), outside=letters), ("",))
        self.assertIsNone(example(Exactly(""), outside=letters + [Begins("")]))

    def test_strings_where_many_signs_are_taken(self):
        usual = [chr(code) for code in range(32, 127) if chr(code) != "%"] + ["\n"]
        for left in ("a", "Z", "~", " ", "\n"):
            taken = [Begins(sign) for sign in usual if sign != left]
            self.check(Kind("text"), taken + [Exactly("")], True)
            self.check(Kind("text"), taken + [Exactly(""), Exactly(left)], True)
            self.check(Begins(left), taken + [Exactly(left + sign) for sign in usual] + [Exactly(left)], True)
            self.check(Begins(left), taken + [Begins(left + sign) for sign in usual], True)
        self.assertEqual(example(Kind("text"), outside=[Begins(sign) for sign in usual]), ("",))

    def test_strings_where_all_signs_are_taken(self):
        usual = [chr(code) for code in range(32, 127) if chr(code) != "%"] + ["\n"]
        exact = [Exactly(sign) for sign in usual] + [Exactly("")]
        self.check(Kind("text"), exact, True)
        self.check(Kind("text"), exact + [Begins(sign) for sign in usual if sign != "q"], True)
        self.check(Kind("text"), exact + [Exactly("a" + sign) for sign in usual] + [Begins("b")], True)
        # There are other strings than those of the usual signs.
        self.check(Kind("text"), exact + [Begins(sign) for sign in usual], True)

    def test_tuples_of_every_length(self):
        lengths = [Items(*[Anything()] * many) for many in range(5)]
        for many, pattern in enumerate(lengths):
            self.check(pattern, [], True)
            self.check(Kind("tuple"), lengths[:many], True)
            self.check(Kind("tuple"), lengths[many:], True)
            self.check(pattern, lengths[:many] + lengths[many + 1:], True)
            self.check(pattern, lengths, False)
            self.check(pattern, [Kind("tuple")], False)
            self.check(Items(*[Anything()] * many, Either()), [], False)
        self.assertEqual(example(Items()), ((),))
        self.assertEqual(common(Kind("tuple"), Exactly(())), ((),))
        self.assertEqual(example(Kind("tuple"), outside=[Not(Items())]), ((),))
        self.check(Exactly(()), [Items()], False)
        self.check(Items(), [Exactly(())], False)
        self.check(Anything(), [Not(Kind("tuple")), Items()], True)

    def test_tuples_item_by_item(self):
        low, high = Between(0, 1), Between(1, 2)
        self.check(Items(Anything(), Anything()), [Items(low, Anything()), Items(Not(low), Anything())], False)
        self.check(Items(low, low), [Items(Exactly(0), Anything()), Items(Anything(), Exactly(0))], True)
        self.assertEqual(example(Items(low, low), outside=[Items(Exactly(0), Anything()),
                                                          Items(Anything(), Exactly(0))]), ((1, 1),))
        self.assertIsNone(example(Items(low, low), outside=[Items(Exactly(0), Anything()),
                                                            Items(Anything(), Exactly(0)), Exactly((1, 1))]))
        self.check_common(Items(low, high), Items(high, low), True)
        self.assertEqual(common(Items(low, high), Items(high, low)), ((1, 1),))
        self.check_common(Items(low, Exactly(2)), Items(high, low), False)
        boxes = [Items(one, other, another) for one in (low, Not(low)) for other in (high, Not(high))
                 for another in (Kind("int"), Not(Kind("int")))]
        self.check(Items(Anything(), Anything(), Anything()), boxes, False)
        for at in range(8):
            self.check(Items(Anything(), Anything(), Anything()), boxes[:at] + boxes[at + 1:], True)

    def test_bools_and_integers_apart_at_every_depth(self):
        for depth in range(5):
            number, flag, one, yes = 1, True, Exactly(1), Exactly(True)
            for _ in range(depth):
                number, flag, one, yes = (number,), (flag,), Items(one), Items(yes)
            self.assertTrue(identical(example(one), (number,)))
            self.assertTrue(identical(example(yes), (flag,)))
            for first, second in ((one, yes), (Exactly(number), yes), (one, Exactly(flag)),
                                  (Exactly(number), Exactly(flag))):
                self.check(first, [second], True)
                self.check(second, [first], True)
                self.check_common(first, second, False)
            self.check(Exactly(number), [one], False)
            self.check(yes, [Exactly(flag)], False)


class Contained(Cases):

    def test_pairs_that_contain_each_other(self):
        for one, other in [(Between(0, 0), Exactly(0)), (Items(), Exactly(())), (Not(Not(Kind("int"))), Kind("int")),
                           (Between(None, None), Kind("int")), (Begins(""), Kind("text")), (Both(), Anything()),
                           (Either(), Between(1, 0)), (Items(Exactly(1), Exactly("a")), Exactly((1, "a"))),
                           (Not(Both(Kind("int"), Between(0, None))), Either(Not(Kind("int")), Between(None, -1))),
                           (Either(Exactly(False), Exactly(True)), Kind("bool")), (Kind("none"), Exactly(None)),
                           (Items(Either(Exactly(1), Exactly(2))), Either(Exactly((1,)), Exactly((2,)))),
                           (Either(Between(0, 3), Between(4, 9)), Between(0, 9)), (Not(Either()), Both()),
                           (Items(Either()), Either()), (Both(Items(), Items(Anything())), Between(1, 0))]:
            self.check(one, [other], False)
            self.check(other, [one], False)

    def test_pairs_of_which_one_contains_the_other(self):
        for one, other in [(Between(0, 3), Between(0, 4)), (Between(0, 3), Between(-1, 3)), (Exactly(2), Kind("int")),
                           (Begins("ab"), Begins("a")), (Exactly("a"), Begins("a")), (Items(), Kind("tuple")),
                           (Items(Exactly(1)), Items(Kind("int"))), (Either(), Exactly(1)), (Exactly(1), Both()),
                           (Both(Kind("int"), Not(Exactly(7))), Kind("int")), (Items(Either()), Items()),
                           (Kind("int"), Not(Exactly(True))), (Items(Anything()), Not(Exactly(())))]:
            self.check(one, [other], False)
            self.check(other, [one], True)

    def test_pairs_that_cross_or_meet_in_one_value(self):
        first, second = Items(Anything(), Exactly(1)), Items(Exactly(1), Anything())
        for one, other in [(Between(0, 5), Between(3, 9)), (Between(0, 5), Between(5, 9)), (first, second),
                           (Kind("int"), Not(Exactly(3))), (Between(None, 0), Between(0, None)),
                           (Begins("a"), Either(Exactly("a"), Exactly("b"))), (Not(Kind("int")), Not(Kind("text"))),
                           (Items(Between(0, 1)), Items(Between(1, 2))), (Kind("tuple"), Not(Items()))]:
            self.check(one, [other], True)
            self.check(other, [one], True)
            self.check_common(one, other, True)
            self.check_common(other, one, True)
        self.assertEqual(common(Between(0, 5), Between(5, 9)), (5,))
        self.assertEqual(common(first, second), ((1, 1),))

    def test_pairs_that_stand_apart(self):
        for one, other in [(Between(0, 3), Between(4, 9)), (Begins("a"), Begins("b")), (Kind("int"), Kind("bool")),
                           (Items(), Items(Anything())), (Exactly(1), Exactly(True)),
                           (Exactly((1,)), Items(Kind("bool"))), (Not(Kind("int")), Kind("int")),
                           (Begins("ab"), Exactly("a")), (Exactly(()), Exactly(None))]:
            self.check(one, [other], True)
            self.check(other, [one], True)
            self.check_common(one, other, False)
            self.check_common(other, one, False)

    def test_many_patterns(self):
        seed = random.Random(9)
        for depth in (1, 2, 3, 4):
            for _ in range(60):
                some = [pattern_by(seed, depth) for _ in range(seed.choice([1, 2, 2, 3, 4]))]
                self.check(some[0], some[1:])
                self.check_common(some[0], some[-1])
                self.check(some[0], [Not(pattern) for pattern in some[1:]])
                self.check(Items(*some), [Items(*reversed(some))])

    def test_large_patterns(self):
        seed = random.Random(10)
        for deep in range(30):
            one, other = [self.large(seed, 8) for _ in range(2)]
            self.check(one, [other])
            self.check(other, [one])
            self.check(one, [one], False)
            self.check_common(one, other)

    def large(self, seed, depth):
        """A pattern nested so deep, of some thirty atoms."""
        part = pattern_by(seed, 0)
        for _ in range(depth):
            word = seed.choice([Both, Either, Items])
            part = word(*[pattern_by(seed, 1) for _ in range(2)], part)
            part = Not(part) if seed.random() < 0.3 else part
        return part


class Refused(unittest.TestCase):

    def test_no_patterns(self):
        others = [{}, Stranger(), Anything, Pattern, Pattern(), [Anything()], (Anything(),), object()]
        for thing in others + VALUES + NO_VALUES + [told for _, told in TOLD]:
            for make in (lambda: example(thing), lambda: example(thing, outside=[Anything()]),
                         lambda: example(Anything(), outside=[thing]), lambda: example(Either(), outside=[thing]),
                         lambda: example(Anything(), outside=[Anything(), thing]), lambda: example(one=thing),
                         lambda: common(thing, Anything()), lambda: common(Anything(), thing),
                         lambda: common(Either(), thing), lambda: common(thing, thing),
                         lambda: common(one=Anything(), other=thing), lambda: common(AnyCall(), thing)):
                with self.assertRaises(BadPattern, msg=thing):
                    make()

    def test_outside_that_is_no_list(self):
        for thing in (None, 1, True, "", "a", {}, {1: Anything()}, Anything(), AnyCall(), Stranger(), {1}, b""):
            for one in (Anything(), Either(), AnyCall()):
                with self.assertRaises(BadPattern, msg=thing):
                    example(one, outside=thing)

    def test_patterns_of_values_and_of_calls_together(self):
        for one in (Anything(), Either(), Kind("int")):
            for other in (AnyCall(), Calls("it"), Calls(None, Either())):
                for make in (lambda: example(one, outside=[other]), lambda: example(other, outside=[one]),
                             lambda: common(one, other), lambda: common(other, one),
                             lambda: example(one, outside=[one, other]), lambda: example(one, outside=[other, one]),
                             lambda: example(other, outside=[one, other]),
                             lambda: example(other, outside=[other, one])):
                    with self.assertRaises(BadPattern):
                        make()

    def test_outside_by_name_only(self):
        for one in (Anything(), AnyCall()):
            with self.assertRaises(TypeError):
                example(one, [one])

    def test_nothing_is_changed(self):
        outside = [Between(0, 3), Kind("text")]
        found = example(Anything(), outside=outside)
        self.assertEqual([pattern.told for pattern in outside], [("between", 0, 3), ("kind", "text")])
        self.assertEqual(len(outside), 2)
        self.assertEqual(example(Anything(), outside=outside), found)


if __name__ == "__main__":
    unittest.main()
