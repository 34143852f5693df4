"""Promise [15]: states, the steps between them, and what shows that a record is not kept; with [2] (f)."""

import itertools
import random
import unittest

from calltakers.errors import BadCall, BadRecord, NoState
from calltakers.patterns import AnyCall, Between, Calls, Exactly
from calltakers.plans import Expectation, Plan
from calltakers.states import ends, is_refusal, ordered, reached, start, steps
from calltakers.values import call
from plan_reference import CALLS, assignments, behind, ending, layers, plan_by, record_by, takers
from reference import identical
from samples import NO_CALLS, NO_VALUES, VALUES, Stranger

FIRST = Expectation("open", Calls("it", Between(0, 2)), least=1, most=2)
LATER = Expectation("read", AnyCall(), least=0, most=3, after=["open"])
LAST = Expectation("close", Calls("it", Between(2, 4)), after=["read"])
PLAN = Plan(FIRST, LATER, LAST)
NO_STATES = [None, True, 0, "000", (), (0,), (0, 0), (0, 0, 0, 0), [0, 0, 0], (0, 0, False), (True, 0, 0), (3, 0, 0),
             (0, 4, 0), (0, 0, 2), (-1, 0, 0), (0, 0, -1), (0, None, 0), (0, "0", 0), (0, (0,), 0), ((0, 0, 0),),
             (0, 0.0, 0), {0: 0}, {0}, PLAN, Stranger(), (0, [0], 0), (10 ** 39, 0, 0)]


def all_states(plan):
    return list(itertools.product(*[range(row[3] + 1) for row in plan.told]))


def next_states(plan, state, made):
    """The states behind a call, by the words of the document."""
    rows, found = plan.told, []
    for index in takers(plan, made):
        raised = tuple(taken + (at == index) for at, taken in enumerate(state))
        before = [other for one, other in behind(plan) if one == index]
        later = [one for one, other in behind(plan) if other == index]
        if raised[index] <= rows[index][3] and not any(state[at] < rows[at][2] for at in before):
            if not any(state[at] for at in later):
                found.append(raised)
    return sorted(found)


class Steps(unittest.TestCase):

    def test_small_ones(self):
        self.assertTrue(identical(start(PLAN), (0, 0, 0)))
        self.assertTrue(identical(start(plan=Plan(FIRST)), (0,)))
        self.assertEqual(steps(PLAN, (0, 0, 0), call("it", 2)), [(1, 0, 0)])
        self.assertEqual(steps(PLAN, (1, 0, 0), call("it", 2)), [(1, 0, 1), (1, 1, 0), (2, 0, 0)])
        self.assertEqual(steps(PLAN, (1, 1, 0), call("it", 2)), [(1, 1, 1), (1, 2, 0)])
        self.assertEqual(steps(PLAN, (1, 0, 1), call("it", 2)), [])
        self.assertEqual(steps(PLAN, (0, 0, 0), call("x")), [])
        self.assertEqual(steps(plan=PLAN, state=(2, 3, 0), call=call("it", 3)), [(2, 3, 1)])
        self.assertIs(ends(PLAN, (0, 0, 1)), False)
        self.assertIs(ends(PLAN, (1, 0, 0)), False)
        self.assertIs(ends(plan=PLAN, state=(1, 0, 1)), True)
        self.assertIs(ends(PLAN, (2, 3, 1)), True)

    def test_states_that_no_record_leads_to(self):
        self.assertEqual(steps(PLAN, (0, 2, 0), call("it", 2)), [])
        self.assertEqual(steps(PLAN, (0, 0, 1), call("it", 1)), [])
        # The one between has its least, but the first one has not.
        self.assertEqual(steps(PLAN, (0, 1, 0), call("it", 3)), [])
        self.assertEqual(steps(PLAN, (1, 0, 0), call("it", 3)), [(1, 0, 1), (1, 1, 0)])

    def test_all_states_of_small_plans(self):
        seed = random.Random(51)
        for count in (1, 2, 3, 4):
            for is_free in (True, False, False):
                for _ in range(8):
                    plan = plan_by(seed, count, is_free=is_free, most=2)
                    self.assertTrue(identical(start(plan), (0,) * count))
                    good = ending(plan, all_states(plan))
                    for state in all_states(plan):
                        self.assertIs(ends(plan, state), state in good)
                        for made in CALLS:
                            found = steps(plan, state, made)
                            self.assertTrue(identical(found, next_states(plan, state, made)), (plan.told, state, made))

    def test_a_new_list_each_time(self):
        found = steps(PLAN, (1, 0, 0), call("it", 2))
        found.clear()
        self.assertEqual(len(steps(PLAN, (1, 0, 0), call("it", 2))), 3)

    def test_no_states(self):
        for thing in NO_STATES:
            for function in (lambda: steps(PLAN, thing, call("it", 2)), lambda: steps(PLAN, thing, None),
                             lambda: steps(plan=PLAN, state=thing, call=call("it", 2)),
                             lambda: ends(PLAN, thing), lambda: ends(plan=PLAN, state=thing)):
                with self.assertRaises(NoState, msg=thing):
                    function()
        for thing in VALUES + NO_VALUES:
            with self.assertRaises(NoState, msg=thing):
                ends(PLAN, thing)

    def test_bad_calls_behind_no_state(self):
        for thing in NO_CALLS:
            with self.assertRaises(BadCall) as caught:
                steps(PLAN, (0, 0, 0), thing)
            self.assertIs(caught.exception.path, thing)


class Reached(unittest.TestCase):

    def check(self, plan, record):
        known = layers(plan, record)
        found = reached(plan, record)
        self.assertTrue(identical(found, known), (plan.told, record))
        self.assertTrue(identical(reached(plan=plan, record=tuple(record)), known))
        for states in found:
            states.append(None)
        found.clear()
        self.assertTrue(identical(reached(plan, record), known))
        good = assignments(plan, record)
        if good:
            expected = ("kept", good[0])
        elif all(known):
            expected = ("lost", len(record))
        else:
            expected = ("lost", known.index([]) - 1)
        self.assertTrue(identical(ordered(plan, record), expected), (plan.told, record))
        self.assertTrue(identical(ordered(plan=plan, record=tuple(record)), expected))
        self.assertEqual(bool(good), ending(plan, known[-1]) != [])
        return expected[0] if good or expected[1] == len(record) else "early"

    def test_small_ones(self):
        self.assertEqual(reached(PLAN, []), [[(0, 0, 0)]])
        self.assertEqual(reached(PLAN, [call("it", 2), call("it", 3), call("it", 0)]),
                         [[(0, 0, 0)], [(1, 0, 0)], [(1, 0, 1), (1, 1, 0)], [(1, 2, 0)]])
        self.assertEqual(ordered(PLAN, [call("it", 2)] * 2), ("kept", ("open", "close")))
        self.assertEqual(ordered(PLAN, [call("it", 2)] * 3), ("kept", ("open", "open", "close")))
        self.assertEqual(ordered(PLAN, []), ("lost", 0))
        self.assertEqual(ordered(PLAN, [call("it", 2)]), ("lost", 1))
        self.assertEqual(ordered(PLAN, [call("it", 3)]), ("lost", 0))
        self.assertEqual(ordered(PLAN, [call("it", 2), call("it", 3), call("it", 0)]), ("lost", 3))
        self.assertEqual(ordered(PLAN, [call("it", 2), call("x")] + [call("x")] * 4), ("lost", 4))
        self.assertEqual(ordered(Plan(Expectation("a", AnyCall(), least=0)), []), ("kept", ()))

    def test_against_a_search(self):
        seed = random.Random(52)
        words = []
        for count in (1, 2, 3, 4):
            for is_free in (True, False, False):
                for _ in range(25):
                    plan = plan_by(seed, count, is_free=is_free, least=1)
                    for _ in range(3):
                        words.append(self.check(plan, record_by(seed, 6)))
        for word in ("kept", "lost", "early"):
            self.assertGreater(words.count(word), 60, word)

    def test_the_limits(self):
        names = "abcdef"
        plan = Plan(*[Expectation(name, AnyCall(), least=0, most=3, after=list(names[max(0, at - 1):at]))
                      for at, name in enumerate(names)])
        free = Plan(*[Expectation(name, Calls("it", Between(at, 9)), least=0, most=3) for at, name in enumerate(names)])
        for one in (plan, free):
            record = [call("it", at % 6) for at in range(16)]
            found = reached(one, record)
            self.assertEqual(found, layers(one, record))
            self.assertEqual(ordered(one, record)[0], "kept")
            self.assertIs(is_refusal(one, record, found), False)
            record = [call("it", at % 6) for at in range(15)] + [call("zz", 1, 2)]
            self.assertEqual(ordered(free, record), ("lost", 15))
        needy = Plan(*[Expectation(name, AnyCall(), least=3, most=3) for name in names])
        self.assertEqual(ordered(needy, [call("it")] * 16), ("lost", 16))


class Refusals(unittest.TestCase):

    def lost_records(self):
        """Plans and records that are not kept, with the states that are reached."""
        seed = random.Random(53)
        found = []
        while len(found) < 60:
            plan = plan_by(seed, seed.choice([1, 2, 3]), is_free=False, most=2)
            record = record_by(seed, 5)
            if not assignments(plan, record):
                found.append((plan, record, layers(plan, record)))
        return found

    def test_what_is_reached(self):
        for plan, record, states in self.lost_records():
            self.assertIs(is_refusal(plan, record, reached(plan, record)), True)
            for thing in (states, tuple(states), [tuple(some) for some in states], [some[::-1] for some in states],
                          [some + some for some in states], tuple([tuple(some * 3) for some in states])):
                self.assertIs(is_refusal(plan, record, thing), True)
                self.assertIs(is_refusal(plan=plan, record=tuple(record), thing=thing), True)

    def test_one_state_missing(self):
        for plan, record, states in self.lost_records():
            for at, some in enumerate(states):
                for index in range(len(some)):
                    thing = states[:at] + [some[:index] + some[index + 1:]] + states[at + 1:]
                    self.assertIs(is_refusal(plan, record, thing), False, (plan.told, record, thing))

    def test_more_states_that_are_closed(self):
        seed = random.Random(54)
        bad = good = 0
        for plan, record, states in self.lost_records():
            for at in range(len(states)):
                more = [list(some) for some in states]
                more[at].insert(0, seed.choice(all_states(plan)))
                # All that the steps lead to comes with it, or one of these is missing.
                for index, made in enumerate(record):
                    for state in more[index]:
                        new = [one for one in next_states(plan, state, made) if one not in more[index + 1]]
                        more[index + 1].extend(new)
                ended = ending(plan, more[-1]) != []
                self.assertIs(is_refusal(plan, record, more), not ended, (plan.told, record, more))
                bad, good = bad + ended, good + (not ended)
                for place in range(at + 1, len(states)):
                    for index in range(len(more[place])):
                        less = [list(some) for some in more]
                        less[place].pop(index)
                        closed = all(one in less[step + 1] for step, made in enumerate(record) for state in less[step]
                                     for one in next_states(plan, state, made))
                        self.assertIs(is_refusal(plan, record, less), closed and not ending(plan, less[-1]))
        self.assertGreater(bad, 10)
        self.assertGreater(good, 10)

    def test_the_state_of_noughts(self):
        record = [call("x")]
        self.assertIs(is_refusal(PLAN, record, [[(0, 0, 0)], []]), True)
        self.assertIs(is_refusal(PLAN, record, [[(0, 1, 0), (0, 0, 0)], []]), True)
        self.assertIs(is_refusal(PLAN, record, [[], []]), False)
        self.assertIs(is_refusal(PLAN, record, [[(0, 1, 0)], []]), False)

    def test_states_that_end_in_the_last_list(self):
        self.assertIs(is_refusal(PLAN, [call("x")], [[(0, 0, 0)], [(1, 0, 0)]]), True)
        self.assertIs(is_refusal(PLAN, [call("x")], [[(0, 0, 0)], [(1, 0, 1)]]), False)
        self.assertIs(is_refusal(PLAN, [call("x")], [[(0, 0, 0)], [(1, 0, 0), (1, 0, 1)]]), False)
        self.assertIs(is_refusal(PLAN, [call("x")], [[(0, 0, 0), (1, 0, 1)], [(1, 0, 0)]]), True)
        self.assertIs(is_refusal(PLAN, [], [[(0, 0, 0)]]), True)
        self.assertIs(is_refusal(PLAN, [], [[(0, 0, 0), (1, 0, 1)]]), False)

    def test_too_few_and_too_many_lists(self):
        for plan, record, states in self.lost_records():
            more = (states + [[]], [[]] + states, states + states, states + [states[-1]])
            for thing in (states[:-1], states[1:], []) + more:
                self.assertIs(is_refusal(plan, record, thing), False)

    def test_things_that_are_no_states(self):
        record, states = [call("x")], [[(0, 0, 0)], []]
        for thing in NO_STATES:
            self.assertIs(is_refusal(PLAN, record, [[(0, 0, 0), thing], []]), False, thing)
            self.assertIs(is_refusal(PLAN, record, [[(0, 0, 0)], [thing]]), False, thing)
            self.assertIs(is_refusal(PLAN, record, [[thing], []]), False, thing)
            self.assertIs(is_refusal(PLAN, record, thing), False, thing)
        for thing in [None, 1, True, "", "ab", {}, {0: [(0, 0, 0)], 1: []}, PLAN, Stranger(), b""]:
            self.assertIs(is_refusal(PLAN, record, thing), False, thing)
            if thing not in ("", {}, b""):
                self.assertIs(is_refusal(PLAN, record, [states[0], thing]), False, thing)
            self.assertIs(is_refusal(PLAN, record, [thing, []]), False, thing)
        for thing in ("", {}, set(), b""):
            self.assertIs(is_refusal(PLAN, record, [states[0], thing]), False, thing)
        for thing in VALUES + NO_VALUES:
            self.assertIs(is_refusal(PLAN, record, thing), False, thing)

    def test_of_records_that_are_kept(self):
        seed = random.Random(55)
        tried = 0
        while tried < 40:
            plan = plan_by(seed, seed.choice([1, 2, 3]), is_free=False, least=1, most=2)
            record = record_by(seed, 4)
            if assignments(plan, record):
                tried += 1
                states = layers(plan, record)
                less = [[state for state in some if state not in ending(plan, some)] for some in states]
                for thing in (states, less, states[:-1] + [less[-1]], states[:-1] + [[]], [[]] * len(states), [], None,
                              states[:1] + [[]] * len(record), [all_states(plan)] * len(states)):
                    self.assertIs(is_refusal(plan, record, thing), False)


class Refused(unittest.TestCase):

    def test_nothing_is_changed(self):
        record, thing = [call("it", 2), call("x")], [[(0, 0, 0)], [(1, 0, 0)], [(1, 1, 0)]]
        told = PLAN.told
        reached(PLAN, record)
        ordered(PLAN, record)
        self.assertIs(is_refusal(PLAN, record, thing), True)
        self.assertEqual((record, thing), ([call("it", 2), call("x")], [[(0, 0, 0)], [(1, 0, 0)], [(1, 1, 0)]]))
        self.assertTrue(identical(PLAN.told, told))

    def test_bad_record_ahead_of_the_thing(self):
        for plan in (PLAN, Plan(Expectation("a", Calls("it", Exactly(1))))):
            for thing in (None, [], [[(0, 0, 0)], []]):
                with self.assertRaises(BadRecord) as caught:
                    is_refusal(plan, [call("x"), None], thing)
                self.assertEqual(caught.exception.index, 1)


if __name__ == "__main__":
    unittest.main()
