"""Promise [8]: patterns of calls."""

import itertools
import unittest

from calltakers.errors import BadCall, BadPattern, BadValue
from calltakers.patterns import Anything, AnyCall, Begins, Between, Both, Calls, Either, Exactly, Kind, Not
from calltakers.values import call
from reference import CALLS_TOLD, identical, told_accepts_call
from samples import CALLS, NAMES, NO_CALLS, NO_NAME_TEXTS, NO_PATHS, NO_VALUES, PATHS, VALUES, Stranger

MANY_CALLS = CALLS + [
    call("it"), call("it", 1), call("it", True), call("it", 1, 2), call("it", (1,)), call("it", ()),
    call("it", mode=1), call("it", mode=True), call("it", 1, mode=1),
    call("it", a=1, mode="x", zz=None), call("it", a=1, mode="y", zz=None), call("it", a=1, mode="y"),
    call("it", a=1, b=2, mode="y", zz=None),
    call("db.open", 5, "ab"), call("db.open", 5, "ab", a=1), call("db.open", 5, "ab", a=1, b=2), call("db", 5, "ab"),
    call("db.open.it", 1), call("open", 1), call("a.b.c.d"), call("a.b.c"),
    call("none", (1,), (2,)), call("none", True, (0,)), call("none", 1, (False,))]


class Made(unittest.TestCase):

    def test_told(self):
        for pattern, told in CALLS_TOLD:
            self.assertTrue(identical(pattern.told, told), told)

    def test_every_path_and_name(self):
        for path in PATHS + [None]:
            self.assertEqual(Calls(path).told, ("calls", path, (), ()))
            self.assertEqual(Calls(path=path).told, ("calls", path, (), ()))
        for name in NAMES:
            self.assertEqual(Calls("it", **{name: Kind("int")}).told, ("calls", "it", (), ((name, ("kind", "int")),)))

    def test_the_order_of_named_patterns_has_no_meaning(self):
        named = [("a", Exactly(1)), ("ab", Exactly(2)), ("b", Exactly(3)), ("zz", Exactly(4))]
        first = Calls("it", Anything(), **dict(named))
        made = call("it", None, zz=4, b=3, ab=2, a=1)
        for order in itertools.permutations(named):
            pattern = Calls("it", Anything(), **dict(order))
            self.assertTrue(identical(pattern.told, first.told))
            self.assertIs(pattern == first, True)
            self.assertIs(pattern.accepts(made), True)
            self.assertIs(pattern.accepts(call("it", None, zz=1, b=2, ab=3, a=4)), False)

    def test_later_changes_have_no_effect(self):
        patterns, named = [Exactly(1)], {"b": Exactly(2)}
        pattern = Calls("it", *patterns, **named)
        patterns.append(Anything())
        named["a"] = Anything()
        self.assertEqual(pattern.told, ("calls", "it", (("exactly", 1),), (("b", ("exactly", 2)),)))

    def test_equal(self):
        self.assertIs(Calls("it", Exactly(1)) == Calls("it", Exactly(True)), False)
        self.assertIs(Calls("it") == Calls(None), False)
        self.assertIs(Calls("it", Exactly(1)) == Calls("it", a=Exactly(1)), False)
        self.assertIs(Calls("it", Exactly(1)) == Calls("it", Exactly(1)), True)
        self.assertIs(AnyCall() == AnyCall(), True)
        self.assertIs(AnyCall() != AnyCall(), False)
        self.assertIs(Calls("it") == AnyCall(), False)
        self.assertIs(AnyCall() == Calls("it"), False)
        self.assertIs(AnyCall() == ("anycall",), False)
        self.assertIs(AnyCall() == Anything(), False)
        self.assertIs(Anything() == AnyCall(), False)
        self.assertIs(Calls("it") == ("calls", "it", (), ()), False)


class Refused(unittest.TestCase):

    def test_paths(self):
        for path in NO_PATHS:
            for make in (lambda: Calls(path), lambda: Calls(path=path), lambda: Calls(path, Anything(), a=Anything())):
                with self.assertRaises(BadPattern, msg=path):
                    make()

    def test_patterns(self):
        others = [Calls("it"), Calls(None), AnyCall(), Anything, [Anything()], (Anything(),), ("anything",), Stranger()]
        for thing in VALUES + NO_VALUES + others:
            for make in (lambda: Calls("it", thing), lambda: Calls(None, Anything(), thing),
                         lambda: Calls("it", a=thing), lambda: Calls("it", thing, a=Anything()),
                         lambda: Calls("it", Anything(), b=Anything(), a=thing)):
                with self.assertRaises(BadPattern, msg=thing):
                    make()

    def test_names(self):
        for name in NO_NAME_TEXTS:
            if name not in ("self", "path"):
                with self.assertRaises(BadPattern, msg=name):
                    Calls("it", **{name: Anything()})
                with self.assertRaises(BadPattern, msg=name):
                    Calls(None, Anything(), a=Anything(), **{name: Anything()})

    def test_they_are_no_patterns_of_values(self):
        for pattern, told in CALLS_TOLD:
            for make in (lambda: Not(pattern), lambda: Both(pattern), lambda: Either(Anything(), pattern),
                         lambda: Anything() & pattern, lambda: Kind("int") | pattern):
                with self.assertRaises(BadPattern, msg=told):
                    make()


class Accepts(unittest.TestCase):

    def check(self, pattern, accepted, refused):
        for made in accepted:
            self.assertIs(pattern.accepts(made), True, (pattern.told, made))
            self.assertIs(pattern.accepts(call=made), True)
        for made in refused:
            self.assertIs(pattern.accepts(made), False, (pattern.told, made))
            self.assertIs(pattern.accepts(call=made), False)

    def test_any_call(self):
        self.check(AnyCall(), MANY_CALLS, [])

    def test_the_path(self):
        self.check(Calls("db.open"), [call("db.open")],
                   [call("db"), call("open"), call("db.open.it"), call("db.opens"), call("it")])
        for path in PATHS:
            self.check(Calls(path), [call(path)], [call(other) for other in PATHS if other != path])

    def test_any_path(self):
        self.check(Calls(None), [call(path) for path in PATHS], [call(path, 1) for path in PATHS] + [call("a", b=1)])
        self.check(Calls(None, Anything(), a=Exactly(1)), [call("it", 2, a=1), call("a.b", 3, a=1)],
                   [call("it", 2), call("it", a=1), call("it", 2, a=2), call("it", 2, 3, a=1), call("it", 2, a=1, b=1)])

    def test_as_many_arguments(self):
        for many in range(5):
            pattern = Calls("it", *[Anything()] * many)
            self.check(pattern, [call("it", *VALUES[:many])],
                       [call("it", *VALUES[:other]) for other in range(7) if other != many])
        self.check(Calls("it", Anything()), [call("it", (1, 2))], [call("it", 1, 2), call("it"), call("it", a=1)])

    def test_each_argument_by_its_pattern(self):
        self.check(Calls("it", Between(0, 5), Begins("a")), [call("it", 0, "a"), call("it", 5, "ab")],
                   [call("it", "a", 0), call("it", 6, "a"), call("it", 5, "b"), call("it", True, "a"), call("it", 0)])
        self.check(Calls("it", Exactly(1)), [call("it", 1)], [call("it", True), call("it", 2), call("it", (1,))])
        self.check(Calls("it", Either()), [], [call("it", value) for value in VALUES])

    def test_exactly_these_names(self):
        pattern = Calls("it", a=Kind("int"), mode=Begins("r"))
        self.check(pattern, [call("it", a=1, mode="r"), call("it", mode="rw", a=-1)],
                   [call("it"), call("it", a=1), call("it", mode="r"), call("it", a=1, mode="r", b=1),
                    call("it", 1, "r"), call("it", a=1, modes="r"), call("it", b=1, mode="r"),
                    call("it", a="r", mode=1), call("it", a=1, mode="w"), call("it", a=True, mode="r"),
                    call("it", 1, a=1, mode="r")])
        self.check(Calls("it", Anything()), [call("it", 1)], [call("it", a=1), call("it", 1, a=1)])
        self.check(Calls("it", a=Anything()), [call("it", a=1)], [call("it", 1), call("it"), call("it", b=1)])

    def test_eight_arguments_and_eight_named(self):
        named = dict(zip("abcdefgh", [Exactly(at) for at in range(8)]))
        pattern = Calls("it", *[Exactly(at) for at in range(8)], **named)
        passed = dict(zip("abcdefgh", range(8)))
        self.check(pattern, [call("it", *range(8), **passed)],
                   [call("it", *range(8), **{**passed, "h": 0}), call("it", *range(7), 9, **passed),
                    call("it", *range(8))])

    def test_all_together(self):
        for pattern, told in CALLS_TOLD:
            for made in MANY_CALLS:
                self.assertIs(pattern.accepts(made), told_accepts_call(told, made), (told, made))

    def test_what_is_no_call(self):
        for pattern, told in CALLS_TOLD:
            for thing in NO_CALLS + NO_VALUES + [Calls("it"), Anything()]:
                for ask in (lambda: pattern.accepts(thing), lambda: pattern.accepts(call=thing)):
                    with self.assertRaises(BadCall, msg=(told, thing)) as caught:
                        ask()
                    self.assertIs(caught.exception.path, thing)

    def test_a_call_is_a_value_but_no_value_is_a_call(self):
        self.assertIs(Anything().accepts(("it", (), ())), True)
        self.assertIs(Exactly(("it", (), ())).accepts(call("it")), True)
        with self.assertRaises(BadValue):
            Anything().accepts(["it", (), ()])


if __name__ == "__main__":
    unittest.main()
