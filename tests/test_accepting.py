"""Promise [7]: which values a pattern accepts."""

import random
import unittest

from calltakers.errors import BadValue
from calltakers.patterns import Anything, Begins, Between, Both, Either, Exactly, Items, Kind, Not, Pattern
from reference import TOLD, identical, told_accepts
from samples import DEEPER, FLAT, KINDS, NO_VALUES, ROWS, VALUES

MORE = ["ab", "abc", "b", "A", "na", "n", "non", -5, -6, 2, 3, 4, 5, 7, 8, (1, (True, "a")), (1, (1, "a")),
        (True, (1,)), ("anything",), ((True,),), (True, (True, 5)), (5, (True, 5))]
POOL = VALUES + FLAT + DEEPER + MORE


class Accepts(unittest.TestCase):

    def check(self, pattern, accepted, refused):
        for value in accepted:
            self.assertIs(pattern.accepts(value), True, (pattern.told, value))
            self.assertIs(pattern.accepts(value=value), True)
        for value in refused:
            self.assertIs(pattern.accepts(value), False, (pattern.told, value))
            self.assertIs(pattern.accepts(value=value), False)

    def test_anything(self):
        self.check(Anything(), VALUES + FLAT, [])

    def test_exactly(self):
        for at, value in enumerate(FLAT):
            self.check(Exactly(value), [value], FLAT[:at] + FLAT[at + 1:])
        self.check(Exactly(1), [1], [True, (1,), "1", 2, None])
        self.check(Exactly(True), [True], [1, False, (True,), "True"])
        self.check(Exactly((0, (1, (False,)))), [(0, (1, (False,)))],
                   [(0, (1, (0,))), (False, (1, (False,))), (0, (True, (False,))), (0, (1, (False, False))), (0,), ()])

    def test_kind(self):
        for kind, values in KINDS:
            others = [value for other, rest in KINDS if other != kind for value in rest]
            self.check(Kind(kind), values, others)
        self.check(Kind("int"), [0, 1], [True, False, (1,)])
        self.check(Kind("bool"), [True, False], [0, 1, None])

    def test_between(self):
        others = [None, True, False, "", "2", (), (2,), (1, 2, 3)]
        self.check(Between(1, 3), [1, 2, 3], [0, 4, -1, -2, 10 ** 39, -10 ** 39] + others)
        self.check(Between(-2, 0), [-2, -1, 0], [-3, 1] + others)
        self.check(Between(2, 2), [2], [1, 3] + others)
        self.check(Between(0, 1), [0, 1], [-1, 2, True, False])
        self.check(Between(None, 3), [3, 2, 0, -10 ** 39], [4, 10 ** 39] + others)
        self.check(Between(3, None), [3, 4, 10 ** 39], [2, 0, -10 ** 39] + others)
        self.check(Between(None, None), [0, 1, -1, 10 ** 39, -10 ** 39], others)
        self.check(Between(10 ** 39, 10 ** 39 + 1), [10 ** 39, 10 ** 39 + 1], [10 ** 39 - 1, 10 ** 39 + 2])

    def test_low_above_high(self):
        self.check(Between(3, 2), [], [2, 3, 1, 4, 0, True, None])
        self.check(Between(1, 0), [], [0, 1, True, False])
        self.check(Between(10 ** 39, -10 ** 39), [], [0, 10 ** 39, -10 ** 39])

    def test_begins(self):
        self.check(Begins("ab"), ["ab", "abc", "ab ", "abab"],
                   ["", "a", "b", "aab", "Ab", " ab", "ac", None, 1, ("ab",)])
        self.check(Begins(""), ["", "a", " ", "\n"], [None, True, 0, (), ("",)])
        self.check(Begins("("), ["(", "(1"], [")", "", ("(",), ()])
        self.check(Begins("None"), ["None"], [None, "none"])

    def test_items(self):
        self.check(Items(), [()], [((),), (None,), None, "", 0, False])
        self.check(Items(Kind("int"), Begins("a")), [(1, "a"), (-4, "ab")],
                   [("a", 1), (1,), (1, "b"), (True, "a"), (1, "a", None), (), ((1, "a"),), 1, "a", None])
        self.check(Items(Anything(), Anything()), [(1, 2), ((), ()), (None, "a")], [(), (1,), (1, 2, 3), "ab", None])
        self.check(Items(Items(Exactly(1)), Items()), [((1,), ())], [((True,), ()), ((1,), (1,)), ((1,),), (1, ()), ()])
        self.check(Items(Begins("a")), [("a",)], ["a", "ab", ("b",)])

    def test_both_and_either(self):
        small, even = Between(0, 9), Either(Exactly(2), Exactly(4), Exactly("x"))
        self.check(Both(small, even), [2, 4], [0, "x", 10, None])
        self.check(Either(small, even), list(range(10)) + ["x"], [10, -1, "y", True])
        self.check(Both(small, even, Not(Exactly(2))), [4], [2, "x", 5])
        self.check(Both(small), [0, 9], ["x", 10])
        self.check(Either(even), [2, "x"], [0, 9])
        self.check(Both(Kind("int"), Kind("text")), [], VALUES)
        self.check(Either(*[Kind(kind) for kind, _ in KINDS]), VALUES, [])

    def test_of_no_patterns(self):
        self.check(Both(), VALUES + FLAT, [])
        self.check(Either(), [], VALUES + FLAT)
        self.check(Not(Both()), [], VALUES)
        self.check(Not(Either()), VALUES, [])

    def test_not(self):
        self.check(Not(Anything()), [], VALUES)
        self.check(Not(Exactly(1)), [True, 0, None, (1,)], [1])
        self.check(Not(Not(Kind("int"))), [0, 1], [True, None, "1"])
        self.check(Not(Items(Anything())), [(), (1, 2), 1, None], [(1,), ((),)])


class AllTogether(unittest.TestCase):

    def compare(self, told, values):
        pattern = Pattern.of(told)
        for value in values:
            wanted = told_accepts(told, value)
            if pattern.accepts(value) is not wanted:
                self.fail((told, value, wanted))

    def test_written_patterns(self):
        for pattern, told in TOLD:
            for value in POOL:
                self.assertIs(pattern.accepts(value), told_accepts(told, value), (told, value))

    def test_two_patterns_joined(self):
        tolds = [told for _, told in TOLD]
        for one in tolds:
            for other in tolds[::2]:
                for word in ("both", "either", "items"):
                    self.compare((word, one, other), POOL[::5])
                self.compare(("both", one, ("not", other)), POOL[::5])

    def test_items_of_tuples(self):
        tolds = [told for _, told in TOLD]
        pairs = [(one, other) for one in VALUES[::2] for other in VALUES[::3]]
        for one in tolds:
            for other in tolds[::3]:
                self.compare(("items", one, other), pairs)

    def test_deeply_nested(self):
        source = random.Random(20261119)
        tolds = [told for _, told in TOLD]
        values = POOL + [value for row in ROWS for value in row[::40]]
        for _ in range(400):
            told = source.choice(tolds)
            for _ in range(source.randrange(1, 7)):
                others = [source.choice(tolds) for _ in range(source.randrange(3))]
                place = source.randrange(len(others) + 1)
                word = source.choice(["items", "both", "either", "not"])
                told = (word, told) if word == "not" else (word, *others[:place], told, *others[place:])
            self.compare(told, source.sample(values, 60))

    def test_operators_accept_what_their_classes_accept(self):
        for p, told in TOLD[::2]:
            for q, other in TOLD[::3]:
                for value in POOL[::7]:
                    one, two = told_accepts(told, value), told_accepts(other, value)
                    self.assertEqual(((p & q).accepts(value), (p | q).accepts(value), (~p).accepts(value)),
                                     (one and two, one or two, not one))


class Refused(unittest.TestCase):

    def test_bad_value_whatever_the_pattern(self):
        for pattern, told in TOLD:
            for thing in NO_VALUES + [Anything(), (Anything(),)]:
                with self.assertRaises(BadValue, msg=(told, thing)):
                    pattern.accepts(thing)
                with self.assertRaises(BadValue, msg=(told, thing)):
                    pattern.accepts(value=thing)

    def test_bad_value_although_another_part_decides(self):
        for pattern, thing in ((Items(Exactly(2), Anything()), (1, [])), (Items(Anything()), (1, [])), (Items(), ([],)),
                               (Both(Either(), Kind("int")), []), (Either(Both(), Kind("int")), {}),
                               (Items(Both(), Items()), ((), ([],))), (Kind("tuple"), ([],)), (Not(Kind("int")), [])):
            with self.assertRaises(BadValue, msg=(pattern.told, thing)):
                pattern.accepts(thing)

    def test_what_was_passed_stays_as_it_was(self):
        thing = ([1, {"a": 2}], 3)
        for pattern, _ in TOLD:
            with self.assertRaises(BadValue):
                pattern.accepts(thing)
        self.assertTrue(identical(thing, ([1, {"a": 2}], 3)))


if __name__ == "__main__":
    unittest.main()
