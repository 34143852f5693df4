"""Promise [9], of patterns of calls, and [2] (b): the classes of calls."""

import itertools
import random
import unittest

from calltakers.cases import classes, common, example
from calltakers.errors import BadPattern
from calltakers.patterns import Anything, AnyCall, Begins, Between, Both, Calls, Either, Exactly, Items, Kind, Not
from calltakers.values import call, is_call
from plenty import MANY_CALLS, call_pattern_by
from reference import CALLS_TOLD, identical, told_accepts_call
from samples import CALLS, NO_VALUES, PATHS, VALUES, Stranger

EMPTY = [Calls("it", Either()), Calls(None, Anything(), Either()), Calls("it", a=Either()),
         Calls("db.open", Anything(), mode=Between(1, 0)), Calls(None, Items(Either()), a=Anything())]


def known_marks(patterns):
    """The marks of all calls that are known."""
    tolds = [pattern.told for pattern in patterns]
    return {tuple(told_accepts_call(told, made) for told in tolds) for made in MANY_CALLS}


class Examples(unittest.TestCase):

    def check(self, one, outside, is_some=None):
        found = example(one, outside=outside)
        tolds = [pattern.told for pattern in outside]
        if found is None:
            for made in MANY_CALLS:
                good = told_accepts_call(one.told, made) and not any(told_accepts_call(told, made) for told in tolds)
                self.assertFalse(good, (one.told, tolds, made))
        else:
            self.assertTrue(type(found) is tuple and len(found) == 1 and is_call(found[0]), found)
            self.assertTrue(told_accepts_call(one.told, found[0]), (one.told, found))
            for told in tolds:
                self.assertFalse(told_accepts_call(told, found[0]), (told, found))
        if is_some is not None:
            self.assertEqual(found is not None, is_some, (one.told, tolds, found))
        self.assertTrue(identical(example(one, outside=tuple(outside)), found))
        return found

    def check_common(self, one, other, is_some):
        for first, second in ((one, other), (other, one)):
            found = common(first, second)
            self.assertEqual(found is not None, is_some, (one.told, other.told, found))
            if found is not None:
                self.assertTrue(type(found) is tuple and len(found) == 1 and is_call(found[0]), found)
                self.assertTrue(told_accepts_call(one.told, found[0]) and told_accepts_call(other.told, found[0]))
            self.assertTrue(identical(common(one=first, other=second), found))

    def test_of_one_pattern(self):
        for pattern, told in CALLS_TOLD:
            some = ("either",) not in [part for _, part in told[-1]] if told[0] == "calls" else True
            self.check(pattern, [], some)
            self.check(pattern, [pattern], False)
            self.check(pattern, [AnyCall()], False)
            self.check(AnyCall(), [pattern], told != ("anycall",))
            self.check(pattern, EMPTY, some)
            self.check_common(pattern, AnyCall(), some)
        for pattern in EMPTY:
            self.check(pattern, [], False)
            self.check_common(pattern, AnyCall(), False)

    def test_where_no_path_is_named(self):
        for pattern in (AnyCall(), Calls(None), Calls(None, Anything()), Calls(None, Kind("int"), a=Begins("x"))):
            found = self.check(pattern, [], True)
            self.assertTrue(is_call(found[0]))
            self.check(pattern, [Calls(path) for path in PATHS], True)
            self.check(pattern, [Calls(path, Anything()) for path in PATHS], True)
            self.check(pattern, [Calls(path, Anything(), a=Anything()) for path in PATHS], True)

    def test_another_path_than_those_that_are_named(self):
        names = [chr(97 + at) for at in range(26)]
        self.check(Calls(None), [Calls(name) for name in names], True)
        self.check(Calls(None, Exactly(1)), [Calls(name, Anything()) for name in names + ["aa", "ab"]], True)
        self.check(Calls(None), [Calls(name) for name in names] + [Calls(None)], False)
        for path in PATHS:
            self.check(Calls(path), [Calls(other) for other in PATHS if other != path], True)
            self.check(Calls(path), [Calls(other) for other in PATHS], False)
            self.assertEqual(example(Calls(path)), (call(path),))
            self.assertEqual(common(Calls(None), Calls(path)), (call(path),))

    def test_shapes(self):
        shapes = [Calls(None, *[Anything()] * many, **{name: Anything() for name in names})
                  for many in range(4) for names in ("", "a", "b", "ab")]
        for at, one in enumerate(shapes):
            self.check(one, shapes[:at] + shapes[at + 1:], True)
            self.check(one, shapes, False)
            self.check(AnyCall(), shapes[:at] + shapes[at + 1:], True)
            for other in shapes:
                self.check_common(one, other, one is other)
        self.check(AnyCall(), shapes, True)

    def test_arguments(self):
        one = Calls("it", Between(0, 5), mode=Kind("text"))
        most = Calls("it", Between(0, 4), mode=Anything())
        self.check(one, [most], True)
        self.check(one, [most, Calls(None, Exactly(5), mode=Not(Exactly("x")))], True)
        self.assertEqual(example(one, outside=[most, Calls(None, Exactly(5), mode=Not(Exactly("x")))]),
                         (call("it", 5, mode="x"),))
        self.check(one, [most, Calls(None, Between(3, 7), mode=Begins(""))], False)
        self.check(one, [Calls(None, Anything(), mode=Anything())], False)
        self.check(Calls(None, Exactly(1)), [Calls(None, Exactly(True))], True)
        self.check_common(Calls(None, Exactly(1)), Calls("it", Exactly(True)), False)
        self.check_common(one, Calls(None, Between(5, 9), mode=Anything()), True)
        self.check_common(one, Calls(None, Between(6, 9), mode=Anything()), False)
        self.check_common(one, Calls("db.open", Anything(), mode=Anything()), False)

    def test_many_patterns(self):
        seed = random.Random(8)
        for depth in (0, 1, 2):
            for _ in range(60):
                some = [call_pattern_by(seed, depth) for _ in range(seed.choice([1, 2, 3, 4]))]
                self.check(some[0], some[1:])
                found = common(some[0], some[-1])
                meet = [made for made in MANY_CALLS if some[0].accepts(made) and some[-1].accepts(made)]
                self.check_common(some[0], some[-1], found is not None or bool(meet))

    def test_examples_of_calls_are_calls(self):
        for made in CALLS:
            path, arguments, named = made
            one = Calls(path, *map(Exactly, arguments), **{name: Exactly(value) for name, value in named})
            self.assertTrue(identical(example(one), (made,)))
            self.assertTrue(identical(common(one, AnyCall()), (made,)))


class Classes(unittest.TestCase):

    def check(self, patterns, marks=None):
        """The classes are right, and, if they are given, just these marks occur."""
        found = classes(patterns)
        self.assertIs(type(found), list)
        for pair in found:
            self.assertTrue(type(pair) is tuple and len(pair) == 2 and is_call(pair[1]), pair)
            self.assertTrue(identical(pair[0], tuple(told_accepts_call(one.told, pair[1]) for one in patterns)), pair)
        self.assertEqual([pair[0] for pair in found], sorted({pair[0] for pair in found}))
        occurring = {pair[0] for pair in found}
        self.assertLessEqual(known_marks(patterns), occurring)
        if marks is not None:
            self.assertEqual(occurring, set(marks))
        again = classes(tuple(patterns))
        self.assertTrue(identical(again, found))
        again.append(None)
        self.assertTrue(identical(classes(patterns=patterns), found))

    def test_of_no_patterns(self):
        self.check([], [()])

    def test_of_one(self):
        self.check([AnyCall()], [(True,)])
        self.check([Calls("it")], [(False,), (True,)])
        self.check([Calls(None)], [(False,), (True,)])
        for pattern in EMPTY:
            self.check([pattern], [(False,)])

    def test_of_the_same_twice(self):
        for pattern in (Calls("it"), Calls(None, Kind("int")), Calls("db.open", a=Not(Exactly(1)))):
            self.check([pattern] * 2, [(False, False), (True, True)])
            self.check([pattern] * 3, [(False,) * 3, (True,) * 3])
        self.check([AnyCall(), AnyCall()], [(True, True)])

    def test_of_several(self):
        low, high = Calls("it", Between(0, 5)), Calls("it", Between(3, 9))
        self.check([low, high], itertools.product([False, True], repeat=2))
        self.check([low, high, AnyCall()], [(one, other, True) for one in (False, True) for other in (False, True)])
        self.check([low, Calls("it", Between(2, 4))], [(False, False), (True, False), (True, True)])
        self.check([low, Calls("it", Between(6, 8))], [(False, False), (False, True), (True, False)])
        self.check([low, Calls("it", Not(Between(0, 5))), Calls("it", Anything())],
                   [(False,) * 3, (True, False, True), (False, True, True)])
        self.check([Calls(None), AnyCall(), Calls("it")], [(False, True, False), (True, True, False), (True,) * 3])

    def test_every_set_of_marks(self):
        for many in range(1, 7):
            some = [Calls(None, Not(Exactly(at))) for at in range(many)]
            self.check(some, [(False,) * many, (True,) * many]
                       + [tuple(at != other for other in range(many)) for at in range(many)])
        crossing = [Calls("it", Kind("bool"), Kind("int"), Begins("a"))] + [
            Calls("it", *[Exactly(exact) if place == at else Anything() for place in range(3)])
            for at, exact in enumerate((True, 1, "ab"))]
        # What all the others accept is (True, 1, "ab"), which the first one accepts, too.
        self.check(crossing, set(itertools.product([False, True], repeat=4)) - {(False, True, True, True)})

    def test_many_patterns(self):
        seed = random.Random(7)
        for depth in (0, 1, 2):
            for _ in range(50):
                some = [call_pattern_by(seed, depth) for _ in range(seed.choice([2, 3, 4, 5, 6]))]
                self.check(some)
                for marks in itertools.product([False, True], repeat=len(some)):
                    inside = [one for one, mark in zip(some, marks) if mark]
                    outside = [one for one, mark in zip(some, marks) if not mark]
                    if len(inside) == 1:
                        is_some = marks in [pair[0] for pair in classes(some)]
                        self.assertEqual(example(inside[0], outside=outside) is not None, is_some)

    def test_the_list_may_be_changed_later(self):
        some = [Calls("it"), AnyCall()]
        found = classes(some)
        some.append(Calls("db"))
        self.assertEqual([pair[0] for pair in found], [(False, True), (True, True)])
        self.assertEqual(len(some), 3)


class Refused(unittest.TestCase):

    def test_no_patterns(self):
        for thing in [Stranger(), Calls, object()] + VALUES + NO_VALUES + [told for _, told in CALLS_TOLD]:
            for make in (lambda: example(AnyCall(), outside=[thing]),
                         lambda: example(AnyCall(), outside=[AnyCall(), thing]),
                         lambda: common(AnyCall(), thing), lambda: common(thing, Calls("it")),
                         lambda: classes([thing]), lambda: classes([AnyCall(), thing]),
                         lambda: classes([thing, AnyCall()])):
                with self.assertRaises(BadPattern, msg=thing):
                    make()

    def test_classes_of_no_list(self):
        for thing in (None, 1, True, "", "a", {}, {"a": AnyCall()}, AnyCall(), Stranger(), {1}, b""):
            with self.assertRaises(BadPattern, msg=thing):
                classes(thing)

    def test_classes_of_patterns_of_values(self):
        for one in (Anything(), Either(), Both(), Kind("int"), Items()):
            for some in ([one], [one, one], [AnyCall(), one], [one, AnyCall()], [Calls("it"), AnyCall(), one]):
                with self.assertRaises(BadPattern):
                    classes(some)


if __name__ == "__main__":
    unittest.main()
