"""Promise [20]: trees of stand-ins with one log, and the rules that answer their calls; with [2] (k)."""

import random
import unittest

from calltakers.errors import BadCall, BadName, BadPattern, BadRecord, BadResult, BadRule, BadValue, Faulted
from calltakers.patterns import AnyCall, Anything, Between, Calls, Exactly, Items, Kind, Pattern
from calltakers.standins import Fault, Standin, outcomes
from calltakers.values import call
from reference import identical, told_accepts_call
from samples import CALLS, NAMES, NO_CALLS, NO_NAMES, NO_VALUES, PATHS, VALUES, Stranger

ANY = AnyCall()
NO_CALL_PATTERNS = [None, 1, True, "", "it", (), [], {}, Stranger(), AnyCall, Calls, Anything(), Exactly(1), Pattern(),
                    Items(), ("anycall",), ("calls", None, (), ())]
NO_RESULTS = [thing for thing in NO_VALUES if not isinstance(thing, Fault)] + [Fault, ANY, Anything()]


def word_of(standin, *arguments, **named):
    """The outcome of a call of a stand-in."""
    try:
        return ("gave", standin.receive(*arguments, **named))
    except Faulted as fault:
        return ("raised", fault.word)


class Model:
    """The rules of a tree once more: lists of what is left of each rule."""

    def __init__(self):
        self.rules, self.log = [], []

    def will(self, pattern, results, again):
        told = [("raised", result.word) if isinstance(result, Fault) else ("gave", result) for result in results]
        self.rules.insert(0, [pattern.told, told, again, list(told)])

    def outcome(self, made):
        found = ("gave", None)
        for rule in self.rules:
            told, results, again, left = rule
            if left and told_accepts_call(told, made):
                found, rule[3] = left[0], left[1:] or (list(results) if again else [])
                break
        self.log.append((made, found))
        return found

    def reset(self):
        self.log = []
        for rule in self.rules:
            rule[3] = list(rule[1])


PATTERNS = [ANY, Calls(None), Calls("it"), Calls("it.a"), Calls(None, Anything()), Calls("it", Between(0, 1)),
            Calls("it.a", Exactly(True)), Calls("it.a.b", Kind("int")), Calls(None, mode=Anything()), Calls("zz")]
RESULTS = [None, 0, 1, True, "x", (1, (True,)), Fault("busy"), Fault("a"), Fault("none")]


def random_rule(seed):
    return (seed.choice(PATTERNS), [seed.choice(RESULTS) for _ in range(seed.randint(1, 3))], seed.random() < 0.3)


class Trees(unittest.TestCase):

    def test_roots(self):
        self.assertEqual(Standin().path, "it")
        for name in NAMES:
            self.assertEqual(Standin(name).path, name)
            self.assertEqual(Standin(name=name).path, name)
            self.assertIn("path", vars(Standin(name)))
        for thing in NO_NAMES + NO_VALUES:
            with self.assertRaises(BadCall) as caught:
                Standin(thing)
            self.assertIs(caught.exception.path, thing)

    def test_children(self):
        root = Standin("db")
        first = root.child("open")
        self.assertEqual((first.path, root.path), ("db.open", "db"))
        self.assertIs(root.child("open"), first)
        self.assertIs(root.child(name="open"), first)
        self.assertIsNot(root.child("read"), first)
        deep = first.child("a").child("b")
        self.assertEqual(deep.path, "db.open.a.b")
        self.assertIs(root.child("open").child("a").child("b"), deep)
        self.assertIs(type(deep), Standin)
        self.assertIsNot(Standin("db").child("open"), first)

    def test_children_with_no_names(self):
        root = Standin("db")
        for standin in (root, root.child("a"), root.child("a").child("b"), root.child("a").child("b").child("c")):
            for thing in NO_NAMES + NO_VALUES + ["a.b"]:
                with self.assertRaises(BadCall) as caught:
                    standin.child(thing)
                self.assertIs(caught.exception.path, thing)

    def test_five_names(self):
        deep = Standin("a").child("b").child("c").child("d")
        self.assertEqual(deep.path, "a.b.c.d")
        for name in NAMES:
            with self.assertRaises(BadCall) as caught:
                deep.child(name)
            self.assertEqual(caught.exception.path, name)

    def test_two_trees_are_independent(self):
        one, other = Standin("db"), Standin("db")
        one.will(ANY, 1)
        self.assertEqual((one.receive(), other.receive(), one.receive()), (1, None, None))
        self.assertEqual((len(one.log()), len(other.log())), (2, 1))


class Receive(unittest.TestCase):

    def test_records_without_a_rule(self):
        for path in PATHS:
            names = path.split(".")
            root = Standin(names[0])
            standin = root
            for name in names[1:]:
                standin = standin.child(name)
            self.assertIsNone(standin.receive(1, "x", zz=None, mode=(True,)))
            made = (path, (1, "x"), (("mode", (True,)), ("zz", None)))
            self.assertTrue(identical(root.log(), [(made, ("gave", None))]))

    def test_what_was_passed_is_kept(self):
        standin = Standin()
        arguments, named = [1, (True, "x")], {"mode": 2, "a": ()}
        standin.receive(*arguments, **named)
        arguments.append(3)
        arguments[0] = 5
        named["mode"] = 7
        named.clear()
        made = call("it", 1, (True, "x"), mode=2, a=())
        self.assertTrue(identical(standin.record(), [made]))
        self.assertTrue(identical(standin.log(), [(made, ("gave", None))]))

    def test_every_value(self):
        for value in VALUES:
            standin = Standin()
            standin.will(ANY, value, again=True)
            self.assertTrue(identical(standin.receive(value, value, mode=value), value))
            self.assertTrue(identical(standin.record(), [("it", (value, value), (("mode", value),))]))

    def test_bad_values_are_not_recorded(self):
        root = Standin()
        root.will(ANY, 1, 2)
        for standin in (root, root.child("a"), root.child("a").child("b")):
            for thing in NO_VALUES:
                for function in (lambda: standin.receive(thing), lambda: standin.receive(1, thing),
                                 lambda: standin.receive(mode=thing), lambda: standin.receive(1, a=1, mode=thing)):
                    with self.assertRaises(BadValue, msg=thing):
                        function()
            for name in ("path", "Mode", "abcdefghi", "a_b", "a1", "_a", "aB", "", "a b"):
                with self.assertRaises(BadValue, msg=name):
                    standin.receive(1, **{name: 1})
            with self.assertRaises(BadValue):
                standin.receive(path="it")
            with self.assertRaises(BadValue):
                standin.receive([], path="it")
            with self.assertRaises(TypeError):
                standin.receive(**{"self": 1})
        self.assertEqual((root.log(), root.record(), root.below()), ([], [], []))
        self.assertEqual((root.receive(), root.receive(), root.receive()), (1, 2, None))


class Rules(unittest.TestCase):

    def test_one_after_the_other(self):
        standin = Standin()
        self.assertIsNone(standin.will(ANY, 1, "x", (True,), None))
        self.assertTrue(identical([standin.receive() for _ in range(6)], [1, "x", (True,), None, None, None]))

    def test_again(self):
        standin = Standin()
        standin.will(ANY, 1, 2, Fault("busy"), again=True)
        told = [word_of(standin) for _ in range(7)]
        row = [("gave", 1), ("gave", 2), ("raised", "busy")]
        self.assertEqual(told, row + row + row[:1])

    def test_the_newest_one_that_accepts_and_is_not_spent(self):
        root = Standin()
        root.will(ANY, "old", again=True)
        root.will(Calls("it.a"), "a1", "a2")
        root.child("b").will(Calls(None), "new")
        a = root.child("a")
        self.assertEqual([a.receive() for _ in range(5)], ["new", "a1", "a2", "old", "old"])
        self.assertEqual(root.receive(), "old")
        a.will(Calls("it", Exactly(True)), "true", again=True)
        self.assertEqual([root.receive(True), root.receive(1), root.receive(True), a.receive(True)],
                         ["true", "old", "true", "old"])

    def test_a_spent_rule_gives_way_to_an_older_one(self):
        standin = Standin()
        for number in range(4):
            standin.will(ANY, number)
        self.assertEqual([standin.receive() for _ in range(5)], [3, 2, 1, 0, None])

    def test_a_fault_is_raised_when_the_call_is_recorded(self):
        root = Standin("db")
        root.will(Calls("db.open", Anything()), 7, Fault("busy"))
        child = root.child("open")
        self.assertEqual(child.receive("x"), 7)
        with self.assertRaises(Faulted) as caught:
            child.receive("y")
        self.assertEqual(caught.exception.word, "busy")
        self.assertIsNone(child.receive("z"))
        self.assertEqual(root.log(), [(call("db.open", "x"), ("gave", 7)), (call("db.open", "y"), ("raised", "busy")),
                                      (call("db.open", "z"), ("gave", None))])

    def test_example(self):
        db = Standin("db")
        db.will(Calls("db.open", Anything()), 7, Fault("busy"))
        self.assertEqual((db.child("open").receive("x"), db.child("close").receive(), db.log()),
                         (7, None, [(("db.open", ("x",), ()), ("gave", 7)), (("db.close", (), ()), ("gave", None))]))

    def test_later_changes_to_results_have_no_effect(self):
        results, fault = [1, 2], Fault("busy")
        standin = Standin()
        standin.will(ANY, *results, fault, again=True)
        results.clear()
        fault.word = "later"
        self.assertEqual([word_of(standin) for _ in range(3)], [("gave", 1), ("gave", 2), ("raised", "busy")])

    def test_bad_patterns(self):
        standin = Standin()
        for thing in NO_CALL_PATTERNS:
            for results in ((1,), (), ([],)):
                with self.assertRaises(BadPattern, msg=thing):
                    standin.will(thing, *results)
        self.assertIsNone(standin.receive())

    def test_bad_results(self):
        standin = Standin()
        standin.will(ANY, "old", again=True)
        with self.assertRaises(BadResult) as caught:
            standin.will(ANY)
        self.assertEqual(caught.exception.index, 0)
        for thing in NO_RESULTS:
            for results, index in (((thing,), 0), ((1, thing), 1), ((Fault("a"), None, thing, thing), 2)):
                for again in (False, True):
                    with self.assertRaises(BadResult, msg=thing) as caught:
                        standin.child("a").will(ANY, *results, again=again)
                    self.assertEqual(caught.exception.index, index)
        self.assertEqual([standin.receive() for _ in range(3)], ["old"] * 3)

    def test_against_a_model(self):
        seed = random.Random(121)
        for _ in range(60):
            root, model = Standin(), Model()
            standins = [root, root.child("a"), root.child("a").child("b"), root.child("zz")]
            for _ in range(seed.randint(5, 30)):
                what, standin = seed.random(), seed.choice(standins)
                if what < 0.25:
                    pattern, results, again = random_rule(seed)
                    standin.will(pattern, *results, again=again)
                    model.will(pattern, results, again)
                elif what < 0.3:
                    self.assertIsNone(standin.reset())
                    model.reset()
                else:
                    arguments = seed.choice([(), (), (1,), (True,), (0,), ("x",)])
                    named = seed.choice([{}, {}, {"mode": 1}])
                    expected = model.outcome(call(standin.path, *arguments, **named))
                    self.assertTrue(identical(word_of(standin, *arguments, **named), expected))
                for one in standins:
                    self.assertTrue(identical(one.log(), model.log))
                    path = one.path
                    calls = [made for made, _ in model.log]
                    self.assertTrue(identical(one.record(), [made for made in calls if made[0] == path]))
                    below = [made for made in calls if (made[0] + ".").startswith(path + ".")]
                    self.assertTrue(identical(one.below(), below))


class Logs(unittest.TestCase):

    def test_record_and_below(self):
        root = Standin("db")
        a, ab = root.child("a"), root.child("ab")
        deep = a.child("b")
        for standin, value in ((deep, 1), (root, 2), (ab, 3), (a, 4), (deep, 5)):
            standin.receive(value)
        self.assertEqual([made[1][0] for made, _ in deep.log()], [1, 2, 3, 4, 5])
        self.assertEqual([[made[1][0] for made in one.record()] for one in (root, a, ab, deep)],
                         [[2], [4], [3], [1, 5]])
        self.assertEqual([[made[1][0] for made in one.below()] for one in (root, a, ab, deep)],
                         [[1, 2, 3, 4, 5], [1, 4, 5], [3], [1, 5]])

    def test_new_lists_each_time(self):
        root = Standin()
        child = root.child("a")
        child.receive(1)
        root.receive(2)
        for standin in (root, child):
            for made in (standin.log, standin.record, standin.below):
                found = made()
                self.assertIs(type(found), list)
                kept = list(found)
                found.append(None)
                found.reverse()
                self.assertEqual(made(), kept)

    def test_reset(self):
        root = Standin()
        child = root.child("a")
        root.will(ANY, 1, 2, Fault("busy"))
        child.will(Calls("it.a"), "x")
        before = [word_of(child) for _ in range(5)]
        self.assertIsNone(child.reset())
        self.assertEqual((root.log(), child.record(), root.below()), ([], [], []))
        self.assertIs(root.child("a"), child)
        self.assertEqual([word_of(child) for _ in range(5)], before)
        root.reset()
        word_of(root)
        root.reset()
        self.assertEqual([word_of(child) for _ in range(5)], before)

    def test_reset_begins_again_rules_anew(self):
        standin = Standin()
        standin.will(ANY, 1, 2, 3, again=True)
        self.assertEqual([standin.receive() for _ in range(4)], [1, 2, 3, 1])
        standin.reset()
        self.assertEqual([standin.receive() for _ in range(4)], [1, 2, 3, 1])


class Faults(unittest.TestCase):

    def test_word(self):
        for name in NAMES:
            self.assertEqual(Fault(name).word, name)
            self.assertEqual(Fault(word=name).word, name)
            self.assertEqual(vars(Fault(name)), {"word": name})

    def test_equal_by_it(self):
        for one in NAMES:
            for other in NAMES:
                self.assertIs(Fault(one) == Fault(other), one == other)
                self.assertIs(Fault(one) != Fault(other), one != other)
            for thing in [one, None, 1, (one,), Stranger(), Faulted(one)]:
                self.assertIs(Fault(one) == thing, False)
                self.assertIs(thing == Fault(one), False)

    def test_bad_names(self):
        for thing in NO_NAMES + NO_VALUES:
            with self.assertRaises(BadName) as caught:
                Fault(thing)
            self.assertIs(caught.exception.name, thing)


class Outcomes(unittest.TestCase):

    def test_against_a_new_tree(self):
        seed = random.Random(122)
        for _ in range(150):
            rules = [random_rule(seed) for _ in range(seed.randint(0, 4))]
            record = [call(seed.choice(["it", "it.a", "it.a.b", "zz"]), *seed.choice([(), (1,), (True,), (0,)]))
                      for _ in range(seed.randint(0, 8))]
            model = Model()
            for rule in rules:
                model.will(*rule)
            expected = [model.outcome(made) for made in record]
            self.assertTrue(identical(outcomes(rules, record), expected))
            loose = tuple((pattern, tuple(results), again) for pattern, results, again in rules)
            self.assertTrue(identical(outcomes(rules=loose, record=tuple(record)), expected))
            trees = {"it": Standin("it"), "zz": Standin("zz")}
            if all(made[0] != "zz" for made in record):
                for pattern, results, again in rules:
                    trees["it"].will(pattern, *results, again=again)
                for made, outcome in zip(record, expected):
                    standin = trees["it"]
                    for name in made[0].split(".")[1:]:
                        standin = standin.child(name)
                    self.assertTrue(identical(word_of(standin, *made[1]), outcome))

    def test_small_ones(self):
        self.assertEqual(outcomes([], []), [])
        self.assertEqual(outcomes([], CALLS), [("gave", None)] * len(CALLS))
        rules = [(ANY, [1], True), (Calls("a"), [Fault("busy"), 2], False)]
        self.assertEqual(outcomes(rules, [call("a"), call("b"), call("a"), call("a")]),
                         [("raised", "busy"), ("gave", 1), ("gave", 2), ("gave", 1)])

    def test_bad_rules(self):
        good = (ANY, [1], False)
        for thing in [None, 1, True, "", "abc", (), [], {}, Stranger(), (ANY,), (ANY, [1]), (ANY, [1], False, 0),
                      [ANY, [1], False], (ANY, [], False), (ANY, (), True), (ANY, None, False), (ANY, 1, False),
                      (ANY, "x", False), (ANY, {1: 1}, False), (ANY, [1], None), (ANY, [1], 0), (ANY, [1], 1),
                      (ANY, [1], "yes"), (ANY, Fault("a"), False), (Anything(), [1], False), (None, [1], False),
                      ([1], ANY, False)]:
            for rules, index in (([thing], 0), ([good, thing], 1), ((good, good, thing, None), 2)):
                for record in ([], [None], None):
                    with self.assertRaises(BadRule, msg=thing) as caught:
                        outcomes(rules, record)
                    self.assertEqual(caught.exception.index, index)
        for thing in NO_RESULTS:
            with self.assertRaises(BadRule, msg=thing) as caught:
                outcomes([good, (ANY, [1, thing], True)], [])
            self.assertEqual(caught.exception.index, 1)
        for thing in NO_CALL_PATTERNS:
            with self.assertRaises(BadRule, msg=thing) as caught:
                outcomes([(thing, [1], True)], None)
            self.assertEqual(caught.exception.index, 0)

    def test_what_is_no_list(self):
        for thing in [None, 1, True, "", "ab", {}, {0: (ANY, [1], False)}, {1}, Stranger(), ANY]:
            for record in ([], None):
                with self.assertRaises(BadRule) as caught:
                    outcomes(thing, record)
                self.assertEqual(caught.exception.index, 0)
            if thing != []:
                with self.assertRaises(BadRecord) as caught:
                    outcomes([], thing)
                self.assertEqual(caught.exception.index, 0)

    def test_bad_records(self):
        for thing in NO_CALLS:
            with self.assertRaises(BadRecord) as caught:
                outcomes([(ANY, [1], False)], [call("a"), thing, None])
            self.assertEqual(caught.exception.index, 1)

    def test_nothing_is_changed(self):
        rules, record = [(ANY, [1, Fault("a")], False)], [call("a")]
        outcomes(rules, record).append(None)
        self.assertEqual((rules, record), ([(ANY, [1, Fault("a")], False)], [call("a")]))
        self.assertEqual(outcomes(rules, record), [("gave", 1)])


if __name__ == "__main__":
    unittest.main()
