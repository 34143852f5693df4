"""Promise [5]: values, their kinds, and their order."""

import unittest

from calltakers.errors import BadValue
from calltakers.patterns import Anything
from calltakers.values import compare, is_value, kind_of, same
from reference import identical
from samples import KINDS, NO_VALUES, ROWS, VALUES


class IsValue(unittest.TestCase):

    def test_values_are_values(self):
        for value in VALUES + [value for row in ROWS for value in row]:
            self.assertIs(is_value(value), True, value)
        self.assertIs(is_value(thing=(1, ("a",))), True)

    def test_ten_levels(self):
        value = spoilt = ()
        for _ in range(12):
            value = (value, 1)
            spoilt = (1, spoilt)
        self.assertIs(is_value(value), True)
        self.assertIs(is_value((value, [])), False)
        self.assertIs(is_value(spoilt), True)

    def test_nothing_else_is_a_value(self):
        for thing in NO_VALUES + [Anything(), (Anything(),)]:
            self.assertIs(is_value(thing), False, thing)
        self.assertIs(is_value(thing=[]), False)

    def test_what_was_passed_stays_as_it_was(self):
        thing = (1, [2, {"a": [3]}])
        is_value(thing)
        self.assertEqual(thing, (1, [2, {"a": [3]}]))


class KindOf(unittest.TestCase):

    def test_the_five_kinds(self):
        for kind, values in KINDS:
            for value in values:
                self.assertEqual(kind_of(value), kind, value)
                self.assertEqual(kind_of(value=value), kind, value)

    def test_bools_are_no_integers(self):
        self.assertEqual([kind_of(value) for value in (True, 1, False, 0, None, "none")],
                         ["bool", "int", "bool", "int", "none", "text"])

    def test_bad_value(self):
        for thing in NO_VALUES:
            with self.assertRaises(BadValue, msg=thing):
                kind_of(thing)
            with self.assertRaises(BadValue, msg=thing):
                kind_of(value=thing)


class Order(unittest.TestCase):

    def test_kinds_come_as_listed(self):
        for low, (_, firsts) in enumerate(KINDS):
            for _, seconds in KINDS[low + 1:]:
                for first in firsts:
                    for second in seconds:
                        self.assertEqual((compare(first, second), compare(second, first)), (-1, 1), (first, second))

    def test_all_pairs_of_ascending_rows(self):
        for row in ROWS:
            for at, one in enumerate(row):
                for to, other in enumerate(row):
                    wanted = (at > to) - (at < to)
                    found = compare(one, other)
                    if found != wanted or same(one, other) is not (at == to):
                        self.fail((one, other, found, wanted))

    def test_the_order_goes_on_from_one_to_the_next(self):
        values = [value for row in ROWS for value in row[::7]]
        below = {(i, j): compare(values[i], values[j]) for i in range(len(values)) for j in range(len(values))}
        for i, one in enumerate(values):
            for j, other in enumerate(values):
                self.assertIs(type(below[i, j]), int)
                self.assertEqual(below[i, j], -below[j, i])
                self.assertEqual(below[i, j] == 0, identical(one, other))
                for k in range(0, len(values), 3):
                    if below[i, j] <= 0 and below[j, k] <= 0 and below[i, k] > 0:
                        self.fail((one, other, values[k]))

    def test_a_beginning_comes_first(self):
        for whole in [(1,), (None, None), ("a", "b", "c"), ((), ()), ((1, 2), (3,))]:
            for many in range(len(whole)):
                self.assertEqual((compare(whole[:many], whole), compare(whole, whole[:many])), (-1, 1))
                self.assertEqual(compare((whole[:many], 9), (whole, 0)), -1)

    def test_the_first_different_item_decides(self):
        self.assertEqual(compare((1, 9, 9, 9), (2,)), -1)
        self.assertEqual(compare((1, 2, 0), (1, 1, 9)), 1)
        self.assertEqual(compare(("b",), ("a", "a")), 1)
        self.assertEqual(compare((True, 9), (1, 0)), -1)
        self.assertEqual(compare(("10",), ("9",)), -1)
        self.assertEqual(compare((10,), (9,)), 1)

    def test_by_name(self):
        self.assertEqual((compare(one=1, other=2), compare(other=1, one=2), compare(one=2, other=2)), (-1, 1, 0))
        self.assertEqual((same(one=1, other=1), same(other=1, one=True)), (True, False))

    def test_bad_value_as_first_and_as_second(self):
        for ask in (compare, same):
            for thing in NO_VALUES:
                for value in (None, 1, "a", (), (1, 2)):
                    for one, other in ((thing, value), (value, thing), (thing, thing)):
                        with self.assertRaises(BadValue, msg=(one, other)):
                            ask(one, other)
                        with self.assertRaises(BadValue, msg=(one, other)):
                            ask(other=other, one=one)

    def test_bad_value_behind_the_first_different_item(self):
        for ask in (compare, same):
            with self.assertRaises(BadValue):
                ask((1, []), (2, 0))
            with self.assertRaises(BadValue):
                ask((1, 0), (2, []))
            with self.assertRaises(BadValue):
                ask(1, ("a", {}))


class Same(unittest.TestCase):

    def test_kinds_are_apart_at_every_depth(self):
        for one, other in ((True, 1), (False, 0), (None, "none"), (None, ()), (None, False), ("1", 1), ("", ())):
            for _ in range(9):
                self.assertIs(same(one, other), False, (one, other))
                self.assertIs(same(other, one), False, (one, other))
                self.assertIs(same(one, one), True)
                self.assertNotEqual(compare(one, other), 0)
                one, other = (0, one), (0, other)

    def test_the_same_content(self):
        self.assertIs(same((1, (True, "a", None)), (1, (True, "a", None))), True)
        self.assertIs(same((1, 2), (1, 2, 3)), False)
        self.assertIs(same((), ((),)), False)
        for one in VALUES:
            for other in VALUES:
                self.assertIs(same(one, other), identical(one, other))


if __name__ == "__main__":
    unittest.main()
