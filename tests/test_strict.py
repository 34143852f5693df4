"""Promise [21]: strict stand-ins, which fail at the earliest possible call; with [2] (k)."""

import itertools
import random
import unittest

from calltakers.errors import BadCall, BadValue, Lost, Missing, NotAllowed, Undecided, Unexpected
from calltakers.patterns import AnyCall, Anything, Between, Calls
from calltakers.plans import Expectation, Plan
from calltakers.standins import Fault, Standin
from calltakers.strict import Strict
from calltakers.values import call
from calltakers.watching import Watcher
from plan_reference import PATTERNS, ending, holds, layers, plan_by, takers
from reference import identical
from samples import NO_NAMES, NO_VALUES, VALUES, Stranger
from test_certainty import beginnings
from test_rules import NESTED, conflicts, narrow

LOW = Expectation("low", Calls("it", Between(0, 5)))
HIGH = Expectation("high", Calls("it", Between(3, 9)), answer="up")
FREE, CROSSED = Plan(LOW, Expectation("any", AnyCall(), least=0, answer=7)), Plan(LOW, HIGH)


class Stop(BaseException):
    """An error that is no Exception."""


def passed(standin, made):
    """What a stand-in answers to a call, or the error; the stand-in is the one of the call's path."""
    for name in made[0].split(".")[1:]:
        standin = standin.child(name)
    try:
        return ("gave", standin.receive(*made[1], **dict(made[2])))
    except Unexpected as error:
        return ("unexpected", error.what)
    except Undecided as error:
        return ("undecided", error.could)


def expected(plan, record, made):
    """What is to be answered to a call behind a record, by the words of the document."""
    calls = record + [made]
    if not layers(plan, calls)[-1]:
        return ("unexpected", made)
    if plan.is_free and not conflicts(plan):
        return ("gave", plan.expectation(narrow(plan, calls)[-1]).answer)
    could = sorted({way[-1] for way in beginnings(plan, calls)})
    answers = [plan.told[index][5] for index in could]
    if all(identical(answers[0], answer) for answer in answers):
        return ("gave", answers[0])
    return ("undecided", tuple(plan.told[index][0] for index in could))


def agrees(plan, record, answers):
    """Whether some assignment of a record that begins with this one has all these answers."""
    return any(all(identical(plan.told[index][5], answer) for index, answer in zip(way, answers))
               for way in beginnings(plan, record))


class Receive(unittest.TestCase):

    def small_plans(self, seed, many):
        found = []
        while len(found) < many:
            patterns = seed.choice([PATTERNS, NESTED])
            plan = plan_by(seed, seed.choice([1, 2, 3]), is_free=seed.random() < 0.6, patterns=patterns, most=2)
            if sum(row[3] for row in plan.told) <= 5:
                found.append(plan)
        return found

    def test_against_the_words_of_the_document(self):
        seed = random.Random(131)
        words = []
        for plan in self.small_plans(seed, 400):
            root, record, log = Strict(plan), [], []
            for _ in range(seed.randint(1, 5)):
                made = call(seed.choice(["it", "it", "it", "it.a"]), *seed.choice([(), (0,), (1,), (2,), (3,), (9,)]))
                wanted = expected(plan, record, made)
                self.assertTrue(identical(passed(root, made), wanted), (plan.told, record, made, wanted))
                if wanted[0] == "gave":
                    record.append(made)
                    log.append((made, wanted))
                    words.append("ruled" if plan.is_free and not conflicts(plan) else "left")
                else:
                    words.append(wanted[0])
                self.assertTrue(identical(root.log(), log))
                self.assertTrue(identical(root.child("a").log(), log))
                watcher = Watcher(plan)
                for one in record:
                    watcher.see(one)
                self.assertEqual(root.verdict, watcher.verdict)
                self.assertEqual(root.child("a").verdict, watcher.verdict)
                self.assertTrue(agrees(plan, record, [outcome[1] for _, outcome in log]), (plan.told, log))
                self.check_done(plan, root, record)
        for word in ("ruled", "left", "unexpected", "undecided"):
            self.assertGreater(words.count(word), 40, word)

    def check_done(self, plan, root, record):
        """done says what is missing behind a record."""
        states = layers(plan, record)[-1]
        lack = min(sum(max(0, row[2] - taken) for row, taken in zip(plan.told, state)) for state in states)
        self.assertEqual(root.verdict, "open" if lack else "kept")
        if not lack:
            self.assertIsNone(root.done())
            return
        for standin in (root, root.child("a")):
            with self.assertRaises(Missing) as caught:
                standin.done()
            lacking = caught.exception.lacking
            self.assertIs(type(lacking), list)
            self.assertEqual(len(lacking), lack)
            self.assertTrue(ending(plan, layers(plan, record + lacking)[-1]))
            lacking.clear()
            self.assertEqual(root.record() + root.child("a").record(), [made for made in record if made[0] == "it"]
                             + [made for made in record if made[0] == "it.a"])

    def test_unexpected_just_where_a_watcher_says_lost(self):
        seed = random.Random(132)
        for _ in range(80):
            plan = plan_by(seed, seed.choice([2, 3, 4]), is_free=False, most=3)
            same = Plan(*[Expectation(row.name, row.pattern, least=row.least, most=row.most, after=row.after)
                          for row in plan.expectations])
            root, watcher = Strict(same), Watcher(same)
            for _ in range(8):
                made = call("it", *seed.choice([(), (0,), (1,), (2,), (3,), (4,)]))
                lost = watcher.twin().see(made) == "lost"
                self.assertTrue(identical(passed(root, made), ("unexpected", made) if lost else ("gave", None)))
                if not lost:
                    watcher.see(made)
                self.assertEqual(root.verdict, watcher.verdict)
                self.assertEqual(root.record(), watcher.record())

    def test_example(self):
        it = Strict(Plan(LOW, HIGH))
        self.assertEqual((it.receive(8), it.verdict, it.receive(4), it.verdict), ("up", "open", None, "kept"))

    def test_undecided(self):
        it = Strict(CROSSED)
        with self.assertRaises(Undecided) as caught:
            it.receive(4)
        self.assertEqual(caught.exception.could, ("low", "high"))
        self.assertEqual((it.log(), it.verdict), ([], "open"))
        self.assertIsNone(it.receive(1))
        self.assertEqual(it.receive(4), "up")
        self.assertEqual(it.verdict, "kept")

    def test_one_and_true_are_different_answers(self):
        for one, other in ((1, True), ((1,), (True,)), (0, False), (None, False)):
            it = Strict(Plan(Expectation("low", Calls("it", Between(0, 5)), answer=one),
                             Expectation("high", Calls("it", Between(3, 9)), answer=other)))
            with self.assertRaises(Undecided):
                it.receive(4)
            self.assertTrue(identical(it.receive(0), one))
            self.assertTrue(identical(it.receive(4), other))
        same = Strict(Plan(Expectation("low", Calls("it", Between(0, 5)), answer=(1, True)),
                           Expectation("high", Calls("it", Between(3, 9)), answer=(1, True))))
        self.assertTrue(identical(same.receive(4), (1, True)))

    def test_the_narrowest_rule_decides_between_several_answers(self):
        it = Strict(Plan(Expectation("any", AnyCall(), answer=1), Expectation("bare", Calls("it"), answer=2)))
        self.assertEqual((it.receive(), it.receive()), (2, 1))
        it = Strict(Plan(Expectation("a", AnyCall(), least=0, answer=1), Expectation("b", AnyCall(), answer=2)))
        self.assertEqual((it.receive(), it.receive()), (2, 1))

    def test_an_ordered_plan_does_not_use_the_narrowest_rule(self):
        it = Strict(Plan(Expectation("a", AnyCall(), most=2, answer=1), Expectation("b", Calls("it"), after=["a"],
                                                                                    answer=2)))
        self.assertEqual(it.receive(1), 1)
        with self.assertRaises(Undecided) as caught:
            it.receive()
        self.assertEqual(caught.exception.could, ("a", "b"))
        self.assertEqual(it.receive(2), 1)
        self.assertEqual(it.receive(), 2)

    def test_bad_values_are_not_recorded(self):
        root = Strict(FREE)
        for standin in (root, root.child("a")):
            for thing in NO_VALUES:
                for function in (lambda: standin.receive(thing), lambda: standin.receive(mode=thing)):
                    with self.assertRaises(BadValue):
                        function()
            for name in ("path", "Mode", "a_b", "", "abcdefghi"):
                with self.assertRaises(BadValue):
                    standin.receive(**{name: 1})
        self.assertEqual((root.log(), root.verdict), ([], "open"))

    def test_what_was_passed_is_kept(self):
        root = Strict(Plan(Expectation("any", AnyCall(), answer=(1,))))
        arguments, named = [1, ()], {"mode": 2}
        self.assertEqual(root.receive(*arguments, **named), (1,))
        arguments.clear()
        named.clear()
        self.assertTrue(identical(root.log(), [(("it", (1, ()), (("mode", 2),)), ("gave", (1,)))]))


class Trees(unittest.TestCase):

    def test_strict_children(self):
        root = Strict(FREE, name="db")
        self.assertIsInstance(root, Standin)
        child = root.child("a")
        self.assertIs(type(child), Strict)
        self.assertIs(root.child("a"), child)
        self.assertIs(type(child.child("b").child("c")), Strict)
        self.assertEqual((root.path, child.path, child.child("b").path), ("db", "db.a", "db.a.b"))
        self.assertIn("path", vars(child))

    def test_names(self):
        self.assertEqual(Strict(FREE).path, "it")
        self.assertEqual(Strict(plan=FREE, name="zz").path, "zz")
        for thing in NO_NAMES + NO_VALUES:
            with self.assertRaises(BadCall) as caught:
                Strict(FREE, name=thing)
            self.assertIs(caught.exception.path, thing)
            with self.assertRaises(BadCall) as caught:
                Strict(FREE).child(thing)
            self.assertIs(caught.exception.path, thing)
        with self.assertRaises(TypeError):
            Strict(FREE, "it")
        deep = Strict(FREE).child("a").child("b").child("c")
        self.assertRaises(BadCall, deep.child, "d")

    def test_calls_of_the_tree_count_together(self):
        root = Strict(Plan(Expectation("any", AnyCall(), most=2, answer=5)))
        child = root.child("a").child("b")
        self.assertEqual((child.receive(), root.receive(1)), (5, 5))
        for standin in (root, child, root.child("zz")):
            with self.assertRaises(Unexpected) as caught:
                standin.receive(2, mode=3)
            self.assertTrue(identical(caught.exception.what, call(standin.path, 2, mode=3)))
        self.assertEqual(root.below(), [call("it.a.b"), call("it", 1)])
        self.assertEqual((root.record(), child.record(), root.child("a").record()),
                         ([call("it", 1)], [call("it.a.b")], []))

    def test_independent_trees_of_one_plan(self):
        one, other = Strict(CROSSED), Strict(CROSSED)
        one.receive(8)
        self.assertEqual((one.verdict, one.receive(4), one.verdict, other.verdict, other.log()),
                         ("open", None, "kept", "open", []))

    def test_reset(self):
        for plan, values in ((CROSSED, (8, 4)), (FREE, (1, 2)),
                             (Plan(LOW, HIGH, Expectation("z", Calls("z"))), (8, 1))):
            root = Strict(plan)
            child = root.child("a")
            first = [root.receive(value) for value in values]
            verdict = root.verdict
            self.assertIsNone(child.reset())
            self.assertEqual((root.log(), child.below(), root.verdict), ([], [], "open"))
            self.assertEqual([root.receive(value) for value in values], first)
            self.assertEqual(root.verdict, verdict)
            with self.assertRaises(Unexpected):
                root.receive("x", 1) if plan is not FREE else root.receive(3)
            root.reset()
            self.assertEqual([root.receive(value) for value in values], first)
            self.assertIs(root.child("a"), child)

    def test_rules_are_not_used(self):
        root = Strict(FREE)
        for standin in (root, root.child("a")):
            for function in (lambda: standin.will(AnyCall(), 1),
                             lambda: standin.will(Calls("it"), Fault("a"), again=True),
                             lambda: standin.will(AnyCall()), lambda: standin.will(None, 1),
                             lambda: standin.will(Anything(), Stranger()), lambda: standin.will(pattern=AnyCall())):
                with self.assertRaises(NotAllowed):
                    function()
        self.assertEqual(root.receive("x"), 7)
        self.assertIsNone(root.receive(1))


class Done(unittest.TestCase):

    def test_missing(self):
        it = Strict(Plan(LOW, HIGH, Expectation("z", Calls("z.z", mode=Anything()), least=2, most=2)))
        it.receive(8)
        with self.assertRaises(Missing) as caught:
            it.done()
        self.assertEqual(len(caught.exception.lacking), 3)
        self.assertEqual([made[0] for made in caught.exception.lacking].count("z.z"), 2)
        kept = Strict(Plan(Expectation("a", AnyCall(), least=0)))
        self.assertIsNone(kept.done())
        self.assertEqual(kept.verdict, "kept")

    def test_an_unexpected_call_leaves_it_as_it_was(self):
        it = Strict(CROSSED)
        it.receive(8)
        for value in (9, 7, "x", None):
            with self.assertRaises(Unexpected):
                it.receive(value)
        self.assertEqual((it.verdict, it.receive(3), it.verdict, it.done()), ("open", None, "kept", None))

    def test_checked(self):
        for value in VALUES + NO_VALUES:
            it, passed_on = Strict(CROSSED), []

            def work(standin):
                passed_on.append(standin)
                standin.receive(1)
                standin.receive(9)
                return value
            self.assertIs(it.checked(work), value)
            self.assertEqual(len(passed_on), 1)
            self.assertIs(passed_on[0], it)
        child = Strict(FREE).child("a")
        self.assertRaises(Missing, child.checked, work=lambda standin: self.assertIs(standin, child))

    def test_checked_raises_missing_behind_the_work(self):
        it = Strict(CROSSED)
        with self.assertRaises(Missing) as caught:
            it.checked(lambda standin: standin.receive(1))
        self.assertEqual(len(caught.exception.lacking), 1)
        self.assertEqual(it.record(), [call("it", 1)])
        self.assertIsNone(it.checked(lambda standin: standin.receive(9) and None))

    def test_checked_passes_errors_of_work_on(self):
        errors = [ValueError("x"), KeyError(1), Stop(), KeyboardInterrupt(), SystemExit(3), GeneratorExit(), Lost("x"),
                  StopIteration(), Unexpected(None), Missing([]), RuntimeError()]
        for error in errors:
            for values in ((), (1,), (1, 9)):
                it = Strict(CROSSED)

                def work(standin):
                    for value in values:
                        standin.receive(value)
                    raise error
                with self.assertRaises(BaseException) as caught:
                    it.checked(work)
                self.assertIs(caught.exception, error)
                self.assertEqual(len(it.log()), len(values))

    def test_checked_passes_its_own_errors_on(self):
        it = Strict(CROSSED)
        with self.assertRaises(Unexpected) as caught:
            it.checked(lambda standin: standin.receive("x"))
        self.assertEqual(caught.exception.what, call("it", "x"))
        with self.assertRaises(Undecided):
            it.checked(lambda standin: standin.receive(4))
        self.assertEqual(it.log(), [])


class Limits(unittest.TestCase):

    def test_sixteen_calls(self):
        names = "abcdef"
        for after in ((), names):
            plan = Plan(*[Expectation(name, AnyCall(), least=3, most=3, answer=at, after=list(after[:at]))
                          for at, name in enumerate(names)])
            it = Strict(plan)
            self.assertEqual([it.receive(at) for at in range(16)], [at // 3 for at in range(16)])
            self.assertRaises(Missing, it.done)
        wide = Strict(Plan(*[Expectation(name, Calls("it", Between(at, 9)), least=0, most=3, answer=1)
                             for at, name in enumerate(names)]))
        self.assertEqual([wide.receive(9) for _ in range(16)], [1] * 16)


class Assignments(unittest.TestCase):

    def test_at_the_end_some_assignment_has_all_answers(self):
        seed = random.Random(133)
        tried = 0
        while tried < 60:
            plan = plan_by(seed, seed.choice([2, 3]), is_free=seed.random() < 0.5, most=2)
            it = Strict(plan)
            for _ in range(30):
                if it.verdict == "kept" and seed.random() < 0.5:
                    break
                passed(it, call("it", *seed.choice([(), (0,), (1,), (2,), (3,), (4,)])))
            if it.verdict == "kept" and it.log():
                tried += 1
                calls = [made for made, _ in it.log()]
                ways = itertools.product(*[takers(plan, made) for made in calls])
                self.assertTrue(any(holds(plan, calls, way) and all(identical(plan.told[index][5], outcome[1])
                                    for index, (_, outcome) in zip(way, it.log())) for way in ways))


if __name__ == "__main__":
    unittest.main()
