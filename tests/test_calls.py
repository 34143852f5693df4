"""Promise [6]: paths and calls."""

import unittest

from calltakers.errors import BadCall, BadValue
from calltakers.values import call, is_call
from reference import identical
from samples import CALLS, NAMES, NO_CALLS, NO_NAME_TEXTS, NO_PATHS, NO_VALUES, PATHS, VALUES, Stranger


class Call(unittest.TestCase):

    def test_every_path(self):
        for path in PATHS:
            self.assertEqual(call(path), (path, (), ()))
            self.assertEqual(call(path=path), (path, (), ()))
            self.assertEqual(call(path=path, a=1), (path, (), (("a", 1),)))

    def test_arguments_of_every_kind(self):
        for value in VALUES:
            self.assertTrue(identical(call("it", value), ("it", (value,), ())), value)
            self.assertTrue(identical(call("it", mode=value), ("it", (), (("mode", value),))), value)
        self.assertTrue(identical(call("it", *VALUES), ("it", tuple(VALUES), ())))
        self.assertTrue(identical(call("db.open", 1, "x", mode=True), ("db.open", (1, "x"), (("mode", True),))))

    def test_named_arguments_ascend(self):
        wanted = ("it", (), (("a", 1), ("ab", 2), ("b", 3), ("zz", 4)))
        self.assertEqual(call("it", a=1, ab=2, b=3, zz=4), wanted)
        self.assertEqual(call("it", zz=4, b=3, ab=2, a=1), wanted)
        self.assertEqual(call("it", b=3, zz=4, a=1, ab=2), wanted)
        for name in NAMES:
            self.assertEqual(call("it", **{name: 1}), ("it", (), ((name, 1),)))
            self.assertEqual(call("it", m=2, **{name: 1})[2], tuple(sorted([("m", 2), (name, 1)])))

    def test_bad_paths(self):
        for path in NO_PATHS + [None]:
            for make in (lambda: call(path), lambda: call(path=path), lambda: call(path, 1, a=2)):
                with self.assertRaises(BadCall, msg=path) as caught:
                    make()
                self.assertIs(caught.exception.path, path)

    def test_the_path_is_checked_first(self):
        for path in NO_PATHS:
            with self.assertRaises(BadCall) as caught:
                call(path, [], Upper={}, a=[])
            self.assertIs(caught.exception.path, path)

    def test_bad_values(self):
        for thing in NO_VALUES:
            with self.assertRaises(BadValue, msg=thing):
                call("it", thing)
            with self.assertRaises(BadValue, msg=thing):
                call("it", 1, thing, 2)
            with self.assertRaises(BadValue, msg=thing):
                call("it", mode=thing)
            with self.assertRaises(BadValue, msg=thing):
                call("it", 1, a=1, mode=thing, z=2)

    def test_bad_names(self):
        for name in NO_NAME_TEXTS:
            if name != "path":
                with self.assertRaises(BadValue, msg=name):
                    call("it", **{name: 1})
                with self.assertRaises(BadValue, msg=name):
                    call("it", 1, b=2, **{name: 1})

    def test_what_was_passed_stays_as_it_was(self):
        arguments, named = [1, (2, 3)], {"b": 1, "a": (2,)}
        made = call("it", *arguments, **named)
        self.assertEqual((arguments, list(named.items())), ([1, (2, 3)], [("b", 1), ("a", (2,))]))
        arguments.append(4)
        named["c"] = 5
        self.assertEqual(made, ("it", (1, (2, 3)), (("a", (2,)), ("b", 1))))
        spoilt = [1, {"a": 2}]
        with self.assertRaises(BadValue):
            call("it", spoilt)
        self.assertEqual(spoilt, [1, {"a": 2}])


class IsCall(unittest.TestCase):

    def test_calls(self):
        for thing in CALLS:
            self.assertIs(is_call(thing), True, thing)
            self.assertIs(is_call(thing=thing), True, thing)
        for path in PATHS:
            self.assertIs(is_call(call(path, 1, (None,), b=1, a="x")), True, path)

    def test_spoilt_calls(self):
        for thing in NO_CALLS:
            self.assertIs(is_call(thing), False, thing)
            self.assertIs(is_call(thing=thing), False, thing)

    def test_parts_that_are_no_values(self):
        for thing in NO_VALUES:
            self.assertIs(is_call(("it", (1, thing), ())), False, thing)
            self.assertIs(is_call(("it", (), (("a", 1), ("b", thing)))), False, thing)
            self.assertIs(is_call(thing), False, thing)

    def test_a_list_in_place_of_any_tuple(self):
        good = ("it", (1, (2,)), (("a", 1), ("b", (3,))))
        self.assertIs(is_call(good), True)
        for bad in (list(good), ("it", [1, (2,)], good[2]), ("it", (1, [2]), good[2]), ("it", good[1], list(good[2])),
                    ("it", good[1], (["a", 1], ("b", (3,)))), ("it", good[1], (("a", 1), ("b", [3])))):
            self.assertIs(is_call(bad), False, bad)

    def test_what_was_passed_stays_as_it_was(self):
        thing = ["it", [1], [["a", [2]]]]
        is_call(thing)
        self.assertEqual(thing, ["it", [1], [["a", [2]]]])
        self.assertIs(is_call(("it", (Stranger,), ())), False)


if __name__ == "__main__":
    unittest.main()
