"""Promises [7] and [8]: Pattern.of and Calls.of, of any value."""

import unittest

from calltakers.errors import BadPattern
from calltakers.patterns import Anything, AnyCall, Calls, Exactly, Kind, Pattern
from reference import CALLS_TOLD, TOLD, identical, is_call_told, is_told
from samples import CALLS, NAMES, NO_CALLS, NO_NAMES, NO_PATHS, NO_VALUES, PATHS, VALUES, Stranger
from spoiling import spoilt

ANY = ("anything",)


class Of(unittest.TestCase):

    def test_of_what_patterns_tell(self):
        for pattern, told in TOLD:
            for made in (Pattern.of(told), Pattern.of(told=told), Pattern.of(pattern.told)):
                self.assertEqual(made, pattern)
                self.assertTrue(identical(made.told, told), told)
                self.assertIs(type(made), type(pattern))

    def test_of_what_patterns_of_calls_tell(self):
        for pattern, told in CALLS_TOLD:
            for made in (Calls.of(told), Calls.of(told=told), Calls.of(pattern.told)):
                self.assertEqual(made, pattern)
                self.assertTrue(identical(made.told, told), told)
                self.assertIs(type(made), type(pattern))

    def test_nested_eight_deep(self):
        pattern = Exactly(True)
        for at in range(8):
            pattern = ~pattern if at % 2 else pattern & Anything()
            self.assertEqual(Pattern.of(pattern.told), pattern)
            self.assertEqual(Calls.of(Calls("it", pattern, a=pattern).told), Calls("it", pattern, a=pattern))

    def test_every_value(self):
        for value in VALUES:
            self.assertTrue(identical(Pattern.of(("exactly", value)).told, ("exactly", value)))

    def test_static(self):
        self.assertIsInstance(vars(Pattern)["of"], staticmethod)
        self.assertIsInstance(vars(Calls)["of"], staticmethod)
        self.assertEqual(Anything().of(("kind", "int")), Kind("int"))
        self.assertEqual(Calls("it").of(("anycall",)), AnyCall())


class Refused(unittest.TestCase):

    def refuses(self, of, things):
        for thing in things:
            with self.assertRaises(BadPattern, msg=thing):
                of(thing)
            with self.assertRaises(BadPattern, msg=thing):
                of(told=thing)

    def test_what_tells_of_no_pattern_at_all(self):
        things = VALUES + NO_VALUES + CALLS + NO_CALLS + [Anything(), Calls("it"), AnyCall(), Anything, Stranger()]
        things = things + [("Anything",), ("any",), ("pattern",), (1,), (None,), (True,), ([],), ({},),
                           (("anything",),), "anything", [ANY], ["anything"],
                           {"anything": 1}, ("anything", 1), ("anything", None), ("anything", ())]
        self.refuses(Pattern.of, things)
        self.refuses(Calls.of, things)

    def test_one_kind_is_not_the_other(self):
        self.refuses(Calls.of, [told for _, told in TOLD])
        self.refuses(Pattern.of, [told for _, told in CALLS_TOLD])
        self.refuses(Pattern.of, [("not", told) for _, told in CALLS_TOLD])
        self.refuses(Calls.of, [("calls", "it", (told,), ()) for _, told in CALLS_TOLD])
        self.refuses(Calls.of, [("calls", "it", (), (("a", told),)) for _, told in CALLS_TOLD])

    def test_wrong_arguments_of_each_class(self):
        self.refuses(Pattern.of, [
            ("exactly",), ("exactly", 1, 1), ("exactly", []), ("exactly", (1, [2])), ["exactly", 1], ("exactly", 1.0),
            ("kind",), ("kind", "int", "int"), ("kind", "Int"), ("kind", 1), ("kind", None), ("kind", ["int"]),
            ("between",), ("between", 1), ("between", 1, 2, 3), ("between", True, 2), ("between", 1, False),
            ("between", "1", 2), ("between", (1,), 2), ("between", 1, []), ["between", 1, 2], ("between", (1, 2)),
            ("begins",), ("begins", 1), ("begins", None), ("begins", "a", "b"), ("begins", ("a",)), ("begins", ["a"]),
            ("items", 1), ("items", "anything"), ("items", ["anything"]), ("items", (ANY,)), ("items", [ANY]),
            ("items", ANY, ()), ["items", ANY], ("both", None), ("both", ANY, ["anything"]), ("both", (ANY, ANY)),
            ("either", ANY, 1), ("either", "either"), ("either", ((),)), ("not",), ("not", 1), ("not", ANY, ANY),
            ("not", "anything"), ("not", ["anything"]), ("not", ()), ("not", ("not", ("not", ("kind", "x"))))])

    def test_wrong_paths_and_names(self):
        for path in PATHS + [None]:
            self.assertEqual(Calls.of(("calls", path, (), ())), Calls(path))
        self.refuses(Calls.of, [("calls", path, (), ()) for path in NO_PATHS])
        for name in NAMES:
            self.assertEqual(Calls.of(("calls", "it", (), ((name, ANY),))), Calls("it", **{name: Anything()}))
        self.refuses(Calls.of, [("calls", "it", (), ((name, ANY),)) for name in NO_NAMES])

    def test_wrong_arguments_of_patterns_of_calls(self):
        a, b = ("a", ANY), ("b", ANY)
        self.assertEqual(Calls.of(("calls", "it", (ANY,), (a, b))), Calls("it", Anything(), b=Anything(), a=Anything()))
        self.refuses(Calls.of, [
            ("calls",), ("calls", "it"), ("calls", "it", ()), ("calls", "it", (), (), ()), ["calls", "it", (), ()],
            ("calls", "it", [], ()), ("calls", "it", (), []), ("calls", "it", None, ()), ("calls", "it", (), None),
            ("calls", "it", ANY, ()), ("calls", "it", (1,), ()), ("calls", "it", ((),), ()), ("calls", "it", [ANY], ()),
            ("calls", "it", "", ()), ("calls", "it", (), ""), ("calls", "it", {}, ()), ("calls", "it", (), {}),
            ("calls", "it", (), (b, a)), ("calls", "it", (), (a, a)), ("calls", "it", (), (a, ("a", ("kind", "int")))),
            ("calls", "it", (), (a, b, b)), ("calls", "it", (), a), ("calls", "it", (), [a]),
            ("calls", "it", (), (list(a),)), ("calls", "it", (), (("a",),)), ("calls", "it", (), (("a", ANY, ANY),)),
            ("calls", "it", (), (("a", 1),)),
            ("calls", "it", (), ((ANY, "a"),)), ("calls", "it", (), ((),)), ("calls", "it", (), ("ab",)),
            ("calls", "it", (), (("a", ["anything"]),)), ("calls", "it", ("anything",), ()), ("anycall", ()),
            ("anycall", 1), ["anycall"], "anycall", ("anycalls",), ("AnyCall",), ("Calls", "it", (), ()),
            ("calls", (), (), ())])

    def test_a_pair_of_no_tuple(self):
        pairs = [None, 1, True, "a", "ab", ["a", ANY], {"a": ANY}]
        self.refuses(Calls.of, [("calls", "it", (), (pair,)) for pair in pairs])


class DifferentInOnePlace(unittest.TestCase):

    def check(self, of, thing, good):
        try:
            made = of(thing)
        except BadPattern:
            self.assertFalse(good, thing)
        else:
            self.assertTrue(good, thing)
            self.assertTrue(identical(made.told, thing), thing)

    def check_all(self, of, tolds, is_good):
        counts = {True: 0, False: 0}
        for thing in [thing for told in tolds for thing in spoilt(told)]:
            good = is_good(thing)
            counts[good] += 1
            self.check(of, thing, good)
        self.assertGreater(counts[True], 100)
        self.assertGreater(counts[False], 1000)

    def test_patterns(self):
        self.check_all(Pattern.of, [told for _, told in TOLD], is_told)

    def test_patterns_of_calls(self):
        self.check_all(Calls.of, [told for _, told in CALLS_TOLD], is_call_told)


if __name__ == "__main__":
    unittest.main()
