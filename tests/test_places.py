"""Promise [22]: places, and replacements of what is seen there; with [2] (k)."""

import random
import unittest

from calltakers.errors import BadCount, BadName, BadOrder, BadValue, NoPlace
from calltakers.places import Places
from reference import identical
from samples import NAMES, NO_NAMES, NO_VALUES, VALUES, Stranger


class Stop(BaseException):
    """An error that is no Exception."""


class Model:
    """Places once more: what is held, and the replacements in force in the order in which they began."""

    def __init__(self, contents=()):
        self.held, self.on = dict(contents), []

    def seen(self, name):
        for one in reversed(self.on):
            if one[0] == name:
                return one[1]
        return (self.held[name],) if name in self.held else ()

    def names(self):
        return tuple(name for name in sorted({*self.held, *[one[0] for one in self.on]}) if self.seen(name))


class Case(unittest.TestCase):

    def check(self, places, model, names=("a", "b", "it", "zz")):
        """Places show what the model shows."""
        self.assertTrue(identical(places.names(), model.names()))
        for name in names:
            seen = model.seen(name)
            self.assertIs(places.has(name), seen != ())
            if seen:
                self.assertTrue(identical(places.read(name), seen[0]))
            else:
                self.assertRaises(NoPlace, places.read, name)

    def refused(self, error, function, *arguments, attribute=None, **named):
        with self.assertRaises(error, msg=arguments) as caught:
            function(*arguments, **named)
        if attribute:
            self.assertIs(caught.exception.name, attribute[0])


class Contents(Case):

    def test_small_ones(self):
        self.assertEqual(Places().names(), ())
        places = Places([("b", 1), ("a", True), ("zz", None)])
        self.assertTrue(identical(places.names(), ("a", "b", "zz")))
        self.assertTrue(identical([places.read(name) for name in "ab"] + [places.read("zz")], [True, 1, None]))
        self.assertEqual(Places(contents=(("a", 1),)).read(name="a"), 1)
        for value in VALUES:
            self.assertTrue(identical(Places([("a", value)]).read("a"), value))
        for name in NAMES:
            self.assertEqual(Places([(name, 1)]).names(), (name,))

    def test_bad_names_then_bad_values_pair_by_pair(self):
        for thing in NO_NAMES + NO_VALUES:
            self.refused(BadName, Places, [("a", 1), (thing, 2), ("b", [])], attribute=(thing,))
            self.refused(BadName, Places, [("a", 1), (thing, []), ("a", 1)], attribute=(thing,))
        for thing in NO_VALUES:
            self.refused(BadValue, Places, [("a", thing)])
            self.refused(BadValue, Places, [("a", 1), ("b", thing), ("Bad", 1), ("a", 1)])
        twice = "a" + "b"
        self.refused(BadName, Places, [("ab", 1), ("c", 1), (twice, 1)], attribute=(twice,))
        self.refused(BadName, Places, [("a", 1), ("a", [])])
        self.refused(BadValue, Places, [("a", []), ("a", 1)])

    def test_later_changes_have_no_effect(self):
        contents = [("a", 1), ("b", 2)]
        places = Places(contents)
        contents.clear()
        self.assertEqual(places.names(), ("a", "b"))

    def test_no_place(self):
        places = Places([("a", None)])
        for thing in NO_NAMES + NO_VALUES + NAMES[1:] + [Stranger(), {1}]:
            self.refused(NoPlace, places.read, thing, attribute=(thing,))
            self.refused(NoPlace, places.remove, thing, attribute=(thing,))
            self.assertIs(places.has(thing), False)
        self.assertIs(places.has(name="a"), True)
        self.assertIsNone(places.read("a"))

    def test_write_and_remove(self):
        places = Places()
        self.assertIsNone(places.write("b", 1))
        self.assertIsNone(places.write(name="a", value=(1,)))
        self.assertEqual((places.names(), places.read("a")), (("a", "b"), (1,)))
        places.write("b", True)
        self.assertIs(places.read("b"), True)
        self.assertIsNone(places.remove("b"))
        self.assertEqual(places.names(), ("a",))
        self.refused(NoPlace, places.remove, "b")
        places.write("b", 2)
        places.remove(name="a")
        self.assertEqual(places.names(), ("b",))

    def test_bad_writes(self):
        places = Places([("a", 1)])
        for thing in NO_NAMES + NO_VALUES:
            self.refused(BadName, places.write, thing, 1, attribute=(thing,))
            self.refused(BadName, places.write, thing, [], attribute=(thing,))
            self.refused(BadName, places.replaced, thing, attribute=(thing,))
            self.refused(BadName, places.replaced, thing, 1, [], attribute=(thing,))
        for thing in NO_VALUES:
            self.refused(BadValue, places.write, "a", thing)
            self.refused(BadValue, places.write, "b", thing)
            self.refused(BadValue, places.replaced, "a", thing)
            self.refused(BadCount, places.replaced, "a", thing, 1)
            self.refused(BadCount, places.replaced, "a", 1, thing)
        self.refused(BadCount, places.replaced, "a", 1, 1)
        self.refused(BadCount, places.replaced, "zz", None, None, None)
        self.assertEqual((places.names(), places.read("a")), (("a",), 1))


class Replacements(Case):

    def test_example(self):
        places = Places([("mode", 1)])
        two, gone = places.replaced("mode", 2), places.replaced("mode")
        self.assertEqual((two.begin(), gone.begin(), places.has("mode"), gone.end(), places.read("mode"), two.end(),
                          places.read("mode")), (None, None, False, None, 2, None, 1))

    def test_not_yet_in_force(self):
        places = Places([("a", 1)])
        one = places.replaced("a", 2)
        self.assertIs(one.in_force, False)
        self.assertEqual(places.read("a"), 1)
        self.assertIsNone(one.begin())
        self.assertIs(one.in_force, True)
        self.assertEqual(places.read("a"), 2)
        self.assertIsNone(one.end())
        self.assertIs(one.in_force, False)
        self.assertEqual(places.read("a"), 1)

    def test_bad_order(self):
        places = Places()
        one = places.replaced("a", 2)
        self.refused(BadOrder, one.end)
        one.begin()
        self.refused(BadOrder, one.begin)
        self.assertEqual((one.in_force, places.read("a")), (True, 2))
        one.end()
        self.refused(BadOrder, one.end)
        self.assertEqual((one.in_force, places.names()), (False, ()))
        one.begin()
        self.assertEqual((one.in_force, places.names()), (True, ("a",)))

    def test_a_place_that_is_not_held(self):
        places = Places()
        one, gone = places.replaced("b", None), places.replaced("b")
        gone.begin()
        self.assertEqual(places.names(), ())
        one.begin()
        self.assertEqual((places.names(), places.read("b")), (("b",), None))
        self.refused(NoPlace, places.remove, "b")
        self.assertEqual(places.names(), ("b",))
        gone.end()
        self.assertEqual(places.names(), ("b",))
        one.end()
        self.assertEqual(places.names(), ())

    def test_what_is_held_changes_beneath(self):
        places = Places([("a", 1)])
        one, gone = places.replaced("a", 2), places.replaced("a")
        one.begin()
        places.write("a", 3)
        self.assertEqual(places.read("a"), 2)
        gone.begin()
        places.write("a", 4)
        self.assertIs(places.has("a"), False)
        places.remove("a")
        self.refused(NoPlace, places.remove, "a")
        gone.end()
        self.assertEqual(places.read("a"), 2)
        one.end()
        self.assertIs(places.has("a"), False)

    def test_begun_again_it_is_the_last_one(self):
        places = Places([("a", 0)])
        one, two = places.replaced("a", 1), places.replaced("a", 2)
        one.begin()
        two.begin()
        self.assertEqual(places.read("a"), 2)
        one.end()
        self.assertEqual(places.read("a"), 2)
        one.begin()
        self.assertEqual(places.read("a"), 1)
        one.end()
        two.end()
        self.assertEqual(places.read("a"), 0)

    def test_histories(self):
        seed = random.Random(141)
        for _ in range(150):
            contents = [(name, seed.choice(VALUES)) for name in ("a", "b", "zz") if seed.random() < 0.6]
            places, model = Places(contents), Model(contents)
            made = []
            for _ in range(seed.randint(1, 40)):
                what, name = seed.random(), seed.choice(["a", "a", "b", "it"])
                if what < 0.2:
                    values = [seed.choice(VALUES) for _ in range(seed.randint(0, 1))]
                    made.append((places.replaced(name, *values), (name, tuple(values), len(made))))
                elif what < 0.35:
                    model.held[name] = value = seed.choice(VALUES)
                    places.write(name, value)
                elif what < 0.45:
                    if name in model.held:
                        del model.held[name]
                        places.remove(name)
                    else:
                        self.refused(NoPlace, places.remove, name)
                elif made and what < 0.75:
                    one, row = seed.choice(made)
                    if row in model.on:
                        self.refused(BadOrder, one.begin)
                    else:
                        one.begin()
                        model.on.append(row)
                elif made:
                    one, row = seed.choice(made)
                    if row in model.on:
                        one.end()
                        model.on.remove(row)
                    else:
                        self.refused(BadOrder, one.end)
                for one, row in made:
                    self.assertIs(one.in_force, row in model.on)
                self.check(places, model)
            seed.shuffle(made)
            for one, row in made:
                if row in model.on:
                    one.end()
            model.on = []
            self.check(places, model)

    def test_two_places_objects_are_independent(self):
        one, other = Places([("a", 1)]), Places([("a", 1)])
        replacement = one.replaced("a", 2)
        replacement.begin()
        self.assertEqual((one.read("a"), other.read("a")), (2, 1))
        self.refused(BadOrder, other.run, lambda places: None, replacement)


class Run(Case):

    def setUp(self):
        self.places = Places([("a", 0), ("b", 0)])
        self.one, self.two = self.places.replaced("a", 1), self.places.replaced("a", 2)
        self.gone = self.places.replaced("b")

    def state(self):
        return (self.one.in_force, self.two.in_force, self.gone.in_force, self.places.names(), self.places.read("a"))

    def as_it_was(self):
        self.assertEqual(self.state(), (False, False, False, ("a", "b"), 0))

    def test_calls_work_once_with_the_places(self):
        for value in VALUES + NO_VALUES:
            passed = []

            def work(places):
                passed.append(places)
                self.assertEqual(self.state(), (True, True, True, ("a",), 2))
                return value
            self.assertIs(self.places.run(work, self.one, self.two, self.gone), value)
            self.assertEqual(len(passed), 1)
            self.assertIs(passed[0], self.places)
            self.as_it_was()
        self.assertEqual(self.places.run(work=lambda places: places.read("a")), 0)

    def test_begins_in_their_order(self):
        self.assertEqual(self.places.run(lambda places: places.read("a"), self.one, self.two), 2)
        self.assertEqual(self.places.run(lambda places: places.read("a"), self.two, self.one), 1)

    def test_errors_of_every_kind_are_passed_on(self):
        for error in [ValueError("x"), KeyError("a"), BadOrder("x"), NoPlace("a"), Stop(), KeyboardInterrupt(),
                      SystemExit(1), GeneratorExit(), StopIteration(), RuntimeError()]:
            def work(places):
                self.assertEqual(self.state(), (True, False, True, ("a",), 1))
                raise error
            with self.assertRaises(BaseException) as caught:
                self.places.run(work, self.gone, self.one)
            self.assertIs(caught.exception, error)
            self.as_it_was()

    def test_work_that_ends_replacements(self):
        for some in ((self.one,), (self.two,), (self.one, self.two), (self.gone, self.two, self.one)):
            def work(places):
                for one in some:
                    one.end()
            self.places.run(work, self.one, self.two, self.gone)
            self.as_it_was()

    def test_work_that_begins_replacements(self):
        other = self.places.replaced("a", 3)

        def work(places):
            self.two.begin()
            other.begin()
            other.end()
        self.places.run(work, self.one)
        self.assertEqual(self.state(), (False, True, False, ("a", "b"), 2))
        self.two.end()
        self.as_it_was()

    def test_ended_and_begun_again_meanwhile(self):
        def work(places):
            self.one.end()
            self.assertEqual(places.read("a"), 2)
            self.one.begin()
            self.assertEqual(places.read("a"), 1)
        self.places.run(work, self.one, self.two)
        self.as_it_was()

        def within(places):
            self.one.end()
            places.run(lambda places: self.assertEqual(places.read("a"), 1), self.one)
            self.assertIs(self.one.in_force, False)
            self.one.begin()
            self.assertEqual(places.read("a"), 1)
        self.places.run(within, self.one, self.two)
        self.as_it_was()

    def test_begun_again_behind_a_run(self):
        self.places.run(lambda places: None, self.one, self.two)
        self.one.begin()
        self.assertEqual(self.state(), (True, False, False, ("a", "b"), 1))
        self.refused(BadOrder, self.two.end)
        self.one.end()
        self.as_it_was()
        self.places.run(lambda places: self.one.end(), self.one)
        self.one.begin()
        self.assertIs(self.one.in_force, True)
        self.refused(BadOrder, self.one.begin)
        self.one.end()
        self.as_it_was()

    def test_one_that_is_in_force_cannot_begin(self):
        self.one.begin()
        self.two.begin()
        called = []
        for some in ((self.one,), (self.gone, self.one), (self.one, self.gone), (self.gone, self.two)):
            self.refused(BadOrder, self.places.run, called.append, *some)
            self.assertEqual(self.state(), (True, True, False, ("a", "b"), 2))
        self.one.end()
        self.one.begin()
        self.assertEqual(self.places.read("a"), 1)
        self.refused(BadOrder, self.places.run, called.append, self.gone, self.one)
        self.assertEqual(self.state(), (True, True, False, ("a", "b"), 1))
        self.assertEqual(called, [])

    def test_one_that_stands_twice(self):
        called = []
        for some in ((self.one, self.one), (self.one, self.two, self.one), (self.gone, self.one, self.gone)):
            self.refused(BadOrder, self.places.run, called.append, *some)
            self.as_it_was()
        self.assertEqual(called, [])

    def test_what_is_no_replacement_of_these_places(self):
        called, stranger = [], Places([("a", 5)]).replaced("a", 6)
        for thing in [None, 1, True, "a", (), [self.one], (self.one,), {}, Stranger(), self.places, stranger]:
            for some in ((thing,), (self.one, thing), (thing, self.one), (self.one, self.one, thing)):
                self.refused(BadOrder, self.places.run, called.append, *some)
                self.as_it_was()
        self.two.begin()
        self.refused(BadOrder, self.places.run, called.append, self.one, self.two, None)
        self.assertEqual(self.state(), (False, True, False, ("a", "b"), 2))
        self.assertIs(stranger.in_force, False)
        self.assertEqual(called, [])

    def test_others_in_force_stay_so(self):
        self.two.begin()
        self.assertEqual(self.places.run(lambda places: places.read("a"), self.one), 1)
        self.assertEqual(self.state(), (False, True, False, ("a", "b"), 2))
        self.places.run(lambda places: self.two.end(), self.one)
        self.as_it_was()

    def test_what_work_writes_stays(self):
        def work(places):
            places.write("a", 9)
            places.remove("b")
            self.assertEqual(places.read("a"), 1)
        self.places.run(work, self.one, self.gone)
        self.assertEqual((self.places.names(), self.places.read("a")), (("a",), 9))

    def test_many_at_once(self):
        some = [self.places.replaced("a", number) for number in range(2000)]
        self.assertEqual(self.places.run(lambda places: places.read("a"), *some), 1999)
        self.assertEqual([one for one in some if one.in_force], [])
        self.as_it_was()


class Histories(Case):
    """Runs within runs, which begin and end replacements in any order and raise errors, against a model."""

    def play(self, seed, places, model, made, depth):
        """Some steps of work; the model does the same."""
        for _ in range(seed.randint(0, 5)):
            what, (one, row) = seed.random(), seed.choice(made)
            if what < 0.3 and row not in model.on:
                one.begin()
                model.on.append(row)
            elif what < 0.5 and row in model.on:
                one.end()
                model.on.remove(row)
            elif what < 0.8 and depth:
                self.nested(seed, places, model, made, depth - 1)
            elif what < 0.9:
                places.write("b", depth)
                model.held["b"] = depth
            self.check(places, model, ("a", "b"))
            if seed.random() < 0.08:
                raise seed.choice([ValueError, Stop, KeyboardInterrupt, BadOrder])("x")

    def nested(self, seed, places, model, made, depth):
        """A run of some replacements, which may raise an error."""
        some = [seed.choice(made) for _ in range(seed.randint(0, 3))]
        rows = [row for _, row in some]
        works = []

        def work(passed):
            works.append(passed)
            model.on.extend(rows)
            self.play(seed, places, model, made, depth)
        can_begin = len(set(rows)) == len(rows) and not any(row in model.on for row in rows)
        try:
            places.run(work, *[one for one, _ in some])
        except (ValueError, Stop, KeyboardInterrupt):
            pass
        self.assertEqual(len(works), 1 if can_begin else 0)
        if can_begin:
            model.on = [row for row in model.on if row not in rows]
        for one, row in made:
            self.assertIs(one.in_force, row in model.on)
        self.check(places, model, ("a", "b"))

    def test_histories(self):
        seed = random.Random(142)
        for _ in range(150):
            contents = [(name, name) for name in "ab" if seed.random() < 0.7]
            places, model = Places(contents), Model(contents)
            made = []
            for number in range(5):
                name, values = seed.choice("aab"), seed.choice([(), (number,), (number,)])
                made.append((places.replaced(name, *values), (name, values, number)))
            self.nested(seed, places, model, made, 3)
            for one, row in made:
                if one.in_force:
                    one.end()
            model.on = []
            self.check(places, model, ("a", "b"))


if __name__ == "__main__":
    unittest.main()
