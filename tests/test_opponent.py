"""Promise [14]: the opponent that defeats every rule, call by call."""

import random
import unittest

from calltakers.errors import BadMove, NoConflict, NotWon
from calltakers.patterns import AnyCall, Between, Calls, Exactly, Kind
from calltakers.plans import Expectation, Plan
from calltakers.rules import Opponent, conflict
from calltakers.values import call, is_call
from plan_reference import PATTERNS, holds, plan_by, takers, within
from reference import identical
from samples import NO_VALUES, VALUES, Stranger
from test_rules import NESTED, conflicts

LOW, HIGH = Expectation("low", Calls("it", Between(0, 5))), Expectation("high", Calls("it", Between(3, 9)))
INNER, OUTER = Expectation("inner", Calls("it", Exactly(1)), least=0), Expectation("outer", Calls("it", Kind("int")))


def after(plan, answers):
    """The opponent that got these answers."""
    opponent = Opponent(plan)
    for answer in answers:
        opponent.given(answer)
    return opponent


def ready(plan, opponent):
    """The names that may take the call that waits, by what the opponent tells."""
    waiting, takings = opponent.waiting(), opponent.takings()
    rows = [plan.told[index] for index in takers(plan, waiting)]
    return [row[0] for row in rows if takings.count(row[0]) < row[3]]


class Play(unittest.TestCase):

    def check_state(self, plan, opponent, calls, answers):
        """The opponent stands as it should behind these calls and answers."""
        self.assertTrue(identical(opponent.record(), calls))
        self.assertTrue(identical(opponent.takings(), answers))
        self.assertIsNot(opponent.record(), opponent.record())
        self.assertIsNot(opponent.takings(), opponent.takings())
        opponent.record().append(None)
        opponent.takings().append("x")
        self.assertTrue(identical((opponent.record(), opponent.takings()), (calls, answers)))
        waiting = opponent.waiting()
        self.assertTrue(identical(opponent.waiting(), waiting))
        if waiting is None:
            self.check_won(plan, opponent)
            return
        self.assertTrue(is_call(waiting))
        with self.assertRaises(NotWon):
            opponent.evidence()
        self.assertLess(len(calls), sum(row[3] for row in plan.told))

    def check_won(self, plan, opponent):
        """The opponent has won as the document says."""
        calls, answers = opponent.record(), opponent.takings()
        self.assertLessEqual(len(calls), sum(row[3] for row in plan.told))
        found = opponent.evidence()
        self.assertTrue(type(found) is tuple and len(found) == 2 and type(found[0]) is list and type(found[1]) is tuple)
        rest, names = found
        self.assertTrue(all(map(is_call, rest)))
        self.assertEqual(len(names), len(calls) + len(rest))
        self.assertTrue(holds(plan, calls + rest, [plan.names().index(name) for name in names]))
        self.assertNotIn(None, answers[:-1])
        if answers[-1] is not None:
            self.assertEqual(rest, [])
            self.assertTrue(any(answers.count(row[0]) < row[2] for row in plan.told))
        rest.append(None)
        self.assertTrue(identical(opponent.evidence(), (rest[:-1], names)))
        for value in [None, "x"] + list(plan.names()) + VALUES + NO_VALUES:
            with self.assertRaises(BadMove) as caught:
                opponent.given(value)
            self.assertIs(caught.exception.name, value)
        self.assertEqual((opponent.record(), opponent.takings(), opponent.waiting()), (calls, answers, None))

    def play(self, plan, rule):
        """Plays a rule, a function of the names that may take the call, against the opponent of a plan."""
        opponent, calls, answers = Opponent(plan), [], []
        self.check_state(plan, opponent, calls, answers)
        while opponent.waiting() is not None:
            calls.append(opponent.waiting())
            names = ready(plan, opponent)
            answers.append(rule(names) if names else None)
            self.assertIsNone(opponent.given(answers[-1]))
            self.check_state(plan, opponent, calls, answers)
        return answers

    def tree(self, plan, answers=()):
        """Plays all answers of all rules; the number of ends."""
        opponent = after(plan, answers)
        self.check_state(plan, opponent, opponent.record(), list(answers))
        if opponent.waiting() is None:
            return 1
        names = ready(plan, opponent)
        for name in ["x", "", None, 1] + list(plan.names()):
            if name is not None and name not in names:
                with self.assertRaises(BadMove) as caught:
                    opponent.given(name)
                self.assertIs(caught.exception.name, name)
        waiting = opponent.waiting()
        self.check_state(plan, opponent, opponent.record(), list(answers))
        self.assertTrue(identical(after(plan, answers).waiting(), waiting))
        ends = 0
        for name in names + [None]:
            following = after(plan, answers)
            following.given(name=name)
            self.assertEqual(following.record(), opponent.record() + [waiting])
            ends += self.tree(plan, answers + (name,))
        return ends


class Trees(Play):

    def test_cross(self):
        self.assertGreater(self.tree(Plan(LOW, HIGH)), 2)
        self.assertGreater(self.tree(Plan(HIGH, LOW, Expectation("any", AnyCall(), least=0))), 3)

    def test_slack(self):
        self.assertGreater(self.tree(Plan(INNER, OUTER)), 2)
        self.assertGreater(self.tree(Plan(OUTER, INNER)), 2)
        inner = Expectation("inner", Calls("it", Exactly(1)), least=1, most=2)
        self.assertGreater(self.tree(Plan(inner, OUTER)), 3)
        self.assertGreater(self.tree(Plan(inner, Expectation("outer", Calls("it", Kind("int")), least=2, most=3))), 3)

    def test_others_that_take_the_same_calls(self):
        inner = Expectation("inner", Calls("it", Exactly(1)), least=1, most=2)
        for least, most in ((0, 1), (1, 1), (1, 2)):
            other = Expectation("other", AnyCall(), least=least, most=most)
            for some in ((inner, OUTER, other), (other, OUTER, inner), (LOW, HIGH, other), (other, LOW, HIGH)):
                self.tree(Plan(*some))

    def test_small_plans(self):
        seed = random.Random(41)
        tried = {"cross": 0, "slack": 0}
        for count in (2, 3, 4):
            for patterns in (PATTERNS, NESTED):
                for _ in range(50):
                    plan = plan_by(seed, count, patterns=patterns, most=2)
                    if conflicts(plan) and sum(row[3] for row in plan.told) <= 5:
                        tried[conflict(plan)[0]] += 1
                        self.tree(plan)
                    elif not conflicts(plan):
                        self.assertRaises(NoConflict, Opponent, plan)
        self.assertGreater(min(tried.values()), 8)


class Rules(Play):

    def test_many_rules(self):
        seed = random.Random(42)

        def sometimes(names):
            return None if seed.random() < 0.2 else seed.choice(names)
        tried = 0
        for count in (2, 3, 4, 5, 6):
            for patterns in (PATTERNS, NESTED):
                for _ in range(25):
                    plan = plan_by(seed, count, patterns=patterns)
                    if not conflicts(plan):
                        continue
                    tried += 1

                    def narrow(names):
                        some = {name: plan.names().index(name) for name in names}
                        return min(names, key=lambda name: sum(within(plan, one, some[name]) for one in some.values()))
                    for rule in (lambda names: names[0], lambda names: names[-1], seed.choice, sometimes, narrow):
                        self.play(plan, rule)
        self.assertGreater(tried, 60)

    def test_the_limits(self):
        some = [Expectation(name, Calls("it", Between(at, 9)), least=at, most=at + 2) for at, name in enumerate("abcd")]
        for plan in (Plan(*some), Plan(*reversed(some))):
            for rule in (lambda names: names[0], lambda names: names[-1], lambda names: None):
                self.play(plan, rule)

    def test_the_same_calls_against_the_same_answers(self):
        plan = Plan(LOW, HIGH, Expectation("any", AnyCall(), least=0, most=2))
        answers = self.play(plan, lambda names: names[-1])
        first, second = Opponent(plan), Opponent(plan=plan)
        for answer in answers:
            self.assertTrue(identical(first.waiting(), second.waiting()))
            first.given(answer)
            second.given(answer)
        self.assertTrue(identical(first.evidence(), second.evidence()))


class Moves(unittest.TestCase):

    def test_bad_moves(self):
        plan = Plan(LOW, HIGH, Expectation("else", Calls("else")))
        opponent = Opponent(plan)
        waiting = opponent.waiting()
        for value in ["else", "x", "lo", "LOW", ("low",), ["low"], 0, True, LOW, Stranger()] + VALUES[1:] + NO_VALUES:
            with self.assertRaises(BadMove) as caught:
                opponent.given(value)
            self.assertIs(caught.exception.name, value)
            self.assertEqual((opponent.waiting(), opponent.record(), opponent.takings()), (waiting, [], []))
        opponent.given("low")
        self.assertEqual((opponent.record(), opponent.takings()), ([waiting], ["low"]))

    def test_names_without_room(self):
        opponent = Opponent(Plan(LOW, HIGH))
        opponent.given("low")
        self.assertIs(LOW.pattern.accepts(opponent.waiting()), True)
        for name in ("low", "high"):
            with self.assertRaises(BadMove) as caught:
                opponent.given(name)
            self.assertEqual(caught.exception.name, name)
        opponent.given(None)
        self.assertIsNone(opponent.waiting())
        self.assertEqual(opponent.evidence(), ([], ("high", "low")))

    def test_none_although_there_is_room(self):
        opponent = Opponent(Plan(LOW, HIGH))
        made = opponent.waiting()
        opponent.given(None)
        self.assertEqual((opponent.waiting(), opponent.record(), opponent.takings()), (None, [made], [None]))
        rest, names = opponent.evidence()
        self.assertEqual((len(rest), sorted(names)), (1, ["high", "low"]))

    def test_a_least_that_is_not_reached(self):
        opponent = Opponent(Plan(INNER, OUTER))
        self.assertEqual(opponent.waiting(), call("it", 1))
        opponent.given("inner")
        self.assertIsNone(opponent.waiting())
        self.assertEqual(opponent.evidence(), ([], ("outer",)))


if __name__ == "__main__":
    unittest.main()
