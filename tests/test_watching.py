"""Promise [16]: the watcher; with [2] (g)."""

import itertools
import random
import unittest

from calltakers.assigning import is_crowded
from calltakers.errors import BadCall, Lost
from calltakers.patterns import AnyCall, Anything, Between, Calls
from calltakers.plans import Expectation, Plan
from calltakers.states import is_refusal, reached
from calltakers.values import call, is_call
from calltakers.watching import Watcher
from plan_reference import ALL_CALLS, CALLS, all_records, is_kept, layers, plan_by
from reference import identical
from samples import NO_CALLS

FIRST = Expectation("open", Calls("db.open", Anything()))
LATER = Expectation("read", Calls("db.read"), least=0, most=2, after=["open"])
PLAN = Plan(FIRST, LATER)
OPEN, READ = call("db.open", "x"), call("db.read")


def shortest(plan, record, most):
    """The number of calls of a shortest continuation that is kept, of at most so many calls; None if there is none."""
    rests = all_records([pair[1] for pair in plan.classes()], most)
    return min([len(rest) for rest in rests if is_kept(plan, record + rest)], default=None)


class Verdicts(unittest.TestCase):

    def check(self, plan, watcher, record):
        """The watcher stands as it should behind a record; its verdict."""
        least = shortest(plan, record, max(0, min(4, sum(row[3] for row in plan.told) - len(record))))
        verdict = "lost" if least is None else "open" if least else "kept"
        self.assertEqual(watcher.verdict, verdict, (plan.told, record))
        self.assertTrue(identical(watcher.record(), record))
        if least is None:
            with self.assertRaises(Lost):
                watcher.rest()
        else:
            rest = watcher.rest()
            self.assertIs(type(rest), list)
            self.assertTrue(all(map(is_call, rest)))
            self.assertEqual(len(rest), least, (plan.told, record, rest))
            self.assertTrue(is_kept(plan, record + rest))
            self.assertTrue(identical(watcher.rest(), rest))
        return verdict

    def test_example(self):
        watcher = Watcher(PLAN)
        self.assertEqual((watcher.verdict, watcher.see(OPEN), watcher.see(READ), watcher.see(OPEN)),
                         ("open", "kept", "kept", "lost"))

    def test_before_the_first_call(self):
        self.assertEqual(Watcher(PLAN).verdict, "open")
        self.assertEqual(Watcher(plan=Plan(Expectation("a", AnyCall(), least=0))).verdict, "kept")
        self.assertEqual(Watcher(PLAN).record(), [])
        self.assertEqual(len(Watcher(PLAN).rest()), 1)

    def test_against_a_search_through_continuations(self):
        seed = random.Random(61)
        verdicts = []
        for count, most in ((1, 3), (2, 2), (3, 1)):
            for is_free in (True, False, False):
                for _ in range(8):
                    plan = plan_by(seed, count, is_free=is_free, least=most, most=most)
                    watcher, record = Watcher(plan), []
                    verdicts.append(self.check(plan, watcher, record))
                    for _ in range(4):
                        made = seed.choice(ALL_CALLS if seed.random() < 0.2 else [pair[1] for pair in plan.classes()])
                        record.append(made)
                        said = watcher.see(made)
                        verdicts.append(self.check(plan, watcher, record))
                        self.assertEqual(said, verdicts[-1])
        for verdict in ("kept", "open", "lost"):
            self.assertGreater(verdicts.count(verdict), 30)

    def test_larger_plans_by_their_states(self):
        seed = random.Random(62)
        for _ in range(60):
            plan = plan_by(seed, seed.choice([4, 5, 6]), is_free=seed.random() < 0.5)
            watcher, record = Watcher(plan), []
            for _ in range(8):
                record.append(seed.choice(CALLS))
                verdict = watcher.see(call=record[-1])
                states = layers(plan, record)[-1]
                lacks = [sum(max(0, row[2] - taken) for row, taken in zip(plan.told, state)) for state in states]
                self.assertEqual(verdict, "lost" if not lacks else "open" if min(lacks) else "kept")
                if lacks:
                    rest = watcher.rest()
                    self.assertEqual(len(rest), min(lacks))
                    other = watcher.twin()
                    for made in rest:
                        self.assertNotEqual(other.see(made), "lost")
                    self.assertEqual(other.verdict, "kept")
                else:
                    self.assertIs(is_refusal(plan, record, reached(plan, record)), True)
                    self.assertEqual(reached(plan, record)[-1], [])

    def test_the_fact_about_free_plans(self):
        seed = random.Random(63)
        for _ in range(30):
            plan = plan_by(seed, seed.choice([1, 2, 3]), most=2)
            for record in all_records(CALLS[:3], 3):
                watcher = Watcher(plan)
                for made in record:
                    watcher.see(made)
                sets = [some for many in range(4) for some in itertools.combinations(range(len(record)), many)]
                crowded = any(is_crowded(plan, record, some) for some in sets)
                self.assertEqual(watcher.verdict == "lost", crowded)

    def test_calls_while_lost_count(self):
        watcher = Watcher(PLAN)
        for many, made in enumerate([READ, OPEN, READ, call("other")]):
            self.assertEqual(watcher.see(made), "lost")
            self.assertEqual(len(watcher.record()), many + 1)
            with self.assertRaises(Lost):
                watcher.rest()
        self.assertEqual(watcher.record(), [READ, OPEN, READ, call("other")])
        self.assertEqual(watcher.verdict, "lost")

    def test_rest_in_the_order_of_the_plan(self):
        late = Expectation("late", Calls("c"), least=2, most=2, after=["mid"])
        plan = Plan(Expectation("first", Calls("a"), least=2, most=3),
                    Expectation("mid", Calls("b"), least=0, after=["first"]), late)
        self.assertEqual(Watcher(plan).rest(), [call("a"), call("a"), call("c"), call("c")])
        watcher = Watcher(plan)
        watcher.see(call("a"))
        self.assertEqual(watcher.rest(), [call("a"), call("c"), call("c")])

    def test_a_shortest_rest(self):
        plan = Plan(Expectation("a", Calls("it", Between(0, 5)), least=0, most=3),
                    Expectation("b", Calls("it", Between(3, 9)), least=2, most=3))
        watcher = Watcher(plan)
        self.assertEqual(len(watcher.rest()), 2)
        watcher.see(call("it", 4))
        self.assertEqual(len(watcher.rest()), 1)
        watcher.see(call("it", 4))
        self.assertEqual(watcher.rest(), [])


class Lists(unittest.TestCase):

    def test_new_ones_each_time(self):
        watcher = Watcher(Plan(FIRST, Expectation("two", Calls("db.open", Anything()))))
        watcher.see(OPEN)
        for made in (watcher.record, watcher.rest):
            found = made()
            kept = list(found)
            found.clear()
            self.assertEqual(made(), kept)
            self.assertEqual(len(kept), 1)

    def test_bad_calls_change_nothing(self):
        watcher = Watcher(PLAN)
        watcher.see(OPEN)
        for thing in NO_CALLS:
            with self.assertRaises(BadCall) as caught:
                watcher.see(thing)
            self.assertIs(caught.exception.path, thing)
            self.assertEqual((watcher.verdict, watcher.record(), watcher.rest()), ("kept", [OPEN], []))
        watcher.see(OPEN)
        with self.assertRaises(BadCall):
            watcher.see(None)
        self.assertEqual((watcher.verdict, watcher.record()), ("lost", [OPEN, OPEN]))


class Twins(unittest.TestCase):

    def test_stands_alike(self):
        seed = random.Random(64)
        for _ in range(40):
            plan = plan_by(seed, seed.choice([1, 2, 3]), is_free=False)
            watcher = Watcher(plan)
            for _ in range(5):
                other = watcher.twin()
                self.assertIsInstance(other, Watcher)
                self.assertIsNot(other, watcher)
                self.assertEqual((other.verdict, other.record()), (watcher.verdict, watcher.record()))
                if other.verdict != "lost":
                    self.assertTrue(identical(other.rest(), watcher.rest()))
                made = seed.choice(CALLS)
                self.assertEqual(other.see(made), watcher.see(made))
                self.assertEqual(other.record(), watcher.record())

    def test_independent(self):
        watcher = Watcher(PLAN)
        watcher.see(OPEN)
        other = watcher.twin()
        self.assertEqual(other.see(OPEN), "lost")
        self.assertEqual((watcher.verdict, watcher.record()), ("kept", [OPEN]))
        another = watcher.twin()
        self.assertEqual(watcher.see(READ), "kept")
        self.assertEqual((other.verdict, other.record()), ("lost", [OPEN, OPEN]))
        self.assertEqual((another.verdict, another.record()), ("kept", [OPEN]))
        self.assertEqual([another.see(READ) for _ in range(3)], ["kept", "kept", "lost"])
        self.assertEqual((watcher.verdict, watcher.record()), ("kept", [OPEN, READ]))

    def test_of_a_twin(self):
        watcher = Watcher(PLAN)
        one = watcher.twin()
        two = one.twin()
        one.see(OPEN)
        self.assertEqual((watcher.record(), one.record(), two.record()), ([], [OPEN], []))
        self.assertEqual((watcher.verdict, one.verdict, two.verdict), ("open", "kept", "open"))


if __name__ == "__main__":
    unittest.main()
