"""Promise [19]: calls of several hands, whether all, some or none of their orders are kept; with [2] (j)."""

import inspect
import itertools
import random
import unittest

from calltakers.errors import BadHands, NoOrder
from calltakers.hands import all_kept, is_all, is_none, merged, orders, some_kept
from calltakers.patterns import AnyCall, Between, Calls, Exactly
from calltakers.plans import Expectation, Plan
from calltakers.values import call
from plan_reference import CALLS, assignments, ending, is_kept, layers, plan_by, takers
from reference import identical
from samples import NO_CALLS, NO_VALUES, VALUES, Stranger
from test_alike import next_states

A, B, C = call("a"), call("b"), call("it", 1)
PLAN = Plan(Expectation("a", Calls("a")), Expectation("b", Calls("b"), after=["a"]))
NO_LISTS = [None, 1, True, "", "ab", {}, {0: [A]}, {1}, Stranger(), PLAN, b""]
NO_HANDS = (NO_LISTS + [[], (), [None], [A], A, [[A], None], [[A], "a"], [[A], {}], [{0: A}], ["", ""],
                        [[], [], [], []], [[A], [A], [A], [A]], [[[A]]], [[A], [[]]], [[A, None]], [[A], [B, 3]]]
            + [[[A], [thing]] for thing in NO_CALLS])
# For hands of two and of one calls.
NO_LINKS = (NO_LISTS[:2] + NO_LISTS[4:5] + NO_LISTS[6:10] + [
    [None], [()], [((0, 0),)], [((0, 0), (1, 0), (0, 1))], [[(0, 0), (1, 0)]], [((0, 0), [1, 0])], [([0, 0], (1, 0))],
    [((0, 0), (1,))], [((0,), (1, 0))], [((0, 0), (1, 0, 0))], [((0, 0), None)], [(None, (1, 0))], [((0, 0), "10")],
    [((0, 2), (1, 0))], [((0, 0), (1, 1))], [((2, 0), (1, 0))], [((0, 0), (2, 0))], [((-1, 0), (0, 0))],
    [((0, -1), (1, 0))], [((0, 0), (1, -1))], [((False, 0), (1, 0))], [((0, False), (1, 0))], [((0, 0), (True, 0))],
    [((0, 0), (1, False))], [((0, 0.0), (1, 0))], [((0, "0"), (1, 0))], [((0, 0), (1, 0)), None],
    [((0, 0), (1, 0)), ()], [((0, 10 ** 39), (1, 0))], ((0, 0), (1, 0)), [(0, 0), (1, 0)]])
# Links that no order of such hands obeys: a circle, a place itself, against a hand, and by way of a hand.
TANGLED = [[((0, 0), (0, 0))], [((1, 0), (1, 0))], [((0, 1), (0, 0))], [((0, 0), (1, 0)), ((1, 0), (0, 0))],
           [((0, 1), (1, 0)), ((1, 0), (0, 0))], [((0, 1), (1, 0)), ((1, 0), (0, 1))]]


def places(hands, order):
    """The places of the calls in an order."""
    return [(hand, order[:at].count(hand)) for at, hand in enumerate(order)]


def all_orders(hands, links=()):
    """All orders, ascending, by a search through all tuples."""
    tokens = [hand for hand, calls in enumerate(hands) for _ in calls]
    return [order for order in sorted(set(itertools.permutations(tokens)))
            if all(places(hands, order).index(one) < places(hands, order).index(other) for one, other in links)]


def record_of(hands, order):
    return [hands[hand][index] for hand, index in places(hands, order)]


def cuts_of(hands, links):
    """All cuts, ascending, by the words of the document."""
    return [cut for cut in itertools.product(*[range(len(calls) + 1) for calls in hands])
            if not any(cut[later[0]] > later[1] and cut[one[0]] <= one[1] for one, later in links)]


def moves(hands, links, cut):
    """The pairs (call, cut behind) for the calls that may come next."""
    found = []
    for hand, calls in enumerate(hands):
        behind = tuple(many + (at == hand) for at, many in enumerate(cut))
        if cut[hand] < len(calls) and behind in cuts_of(hands, links):
            found.append((calls[cut[hand]], behind))
    return found


def cut_of(hands, order):
    return tuple(order.count(hand) for hand in range(len(hands)))


def hands_by(random, many):
    """Some hands with so many calls at the most together, and links that some order obeys, or None."""
    sizes = [0] * random.choice([1, 2, 2, 3, 3])
    for _ in range(random.randint(0, many)):
        sizes[random.randrange(len(sizes))] += 1
    hands = [[random.choice(CALLS) for _ in range(size)] for size in sizes]
    spots = [(hand, index) for hand, calls in enumerate(hands) for index in range(len(calls))]
    many = random.choice([0, 0, 1, 2, 3]) if spots else 0
    links = [(random.choice(spots), random.choice(spots)) for _ in range(many)]
    links += random.sample(links, random.randint(0, len(links)))
    return hands, links


class Orders(unittest.TestCase):

    def test_small_ones(self):
        self.assertEqual(list(orders([[]])), [()])
        self.assertEqual(list(orders([[], [], []])), [()])
        self.assertEqual(list(orders([[A, B]])), [(0, 0)])
        self.assertEqual(list(orders([[A], [B]])), [(0, 1), (1, 0)])
        self.assertEqual(list(orders([[], [B, A]])), [(1, 1)])
        self.assertEqual(list(orders([[A], [B]], links=[((1, 0), (0, 0))])), [(1, 0)])
        self.assertEqual(list(orders([[A, B], [C]], links=[((0, 0), (1, 0))])), [(0, 0, 1), (0, 1, 0)])
        self.assertEqual(list(orders(hands=([A, B], (C,)), links=(((0, 0), (1, 0)), ((1, 0), (0, 1))))), [(0, 1, 0)])

    def test_against_a_search(self):
        seed = random.Random(101)
        linked, refused = 0, 0
        for _ in range(400):
            hands, links = hands_by(seed, 6)
            expected = all_orders(hands, links)
            if expected:
                found = list(orders(hands, links=links))
                self.assertTrue(identical(found, expected), (hands, links))
                self.assertTrue(identical(list(orders(tuple(map(tuple, hands)), links=tuple(links))), expected))
                for order in found:
                    self.assertTrue(identical(merged(hands, order), record_of(hands, order)))
                linked += links != []
            else:
                refused += 1
                with self.assertRaises(BadHands):
                    next(orders(hands, links=links))
        self.assertGreater(linked, 40)
        self.assertGreater(refused, 20)

    def test_a_generator(self):
        self.assertTrue(inspect.isgenerator(orders([[A], [B]])))
        made = orders([[A], [B]])
        self.assertEqual((next(made), next(made), next(made, None)), ((0, 1), (1, 0), None))
        many = orders([[A] * 12, [B] * 12, [C] * 12])
        self.assertEqual(next(many), (0,) * 12 + (1,) * 12 + (2,) * 12)

    def test_errors_when_the_first_is_requested(self):
        linked = [([[A, B], [C]], some) for some in NO_LINKS + TANGLED]
        for hands, links in [(thing, ()) for thing in NO_HANDS] + linked:
            with self.assertRaises(BadHands, msg=(hands, links)):
                next(orders(hands, links=links))

    def test_later_changes_have_no_effect(self):
        hands, links = [[A], [B]], [((1, 0), (0, 0))]
        made = orders(hands, links=links)
        self.assertEqual(next(made), (1, 0))
        hands[0].append(C)
        links.clear()
        self.assertEqual(list(made), [])

    def test_links_by_name_only(self):
        for function in (lambda: orders([[A]], []), lambda: some_kept(PLAN, [[A]], []),
                         lambda: all_kept(PLAN, [[A]], []), lambda: is_none(PLAN, [[A]], [], []),
                         lambda: is_all(PLAN, [[A]], [], [])):
            with self.assertRaises(TypeError):
                function()

    def test_the_limits(self):
        hands = [[A, B, C], [B, C, A], [C, A, B]]
        found = list(orders(hands))
        self.assertEqual(len(found), 1680)
        self.assertEqual(found, sorted(set(found)))
        self.assertEqual(len(list(orders([[A] * 9]))), 1)


class Merged(unittest.TestCase):

    def test_no_orders(self):
        hands = [[A, B], [C]]
        self.assertEqual(merged(hands, (0, 1, 0)), [A, C, B])
        self.assertEqual(merged(hands=((A, B), [C]), order=(1, 0, 0)), [C, A, B])
        self.assertEqual((merged([[]], ()), merged([[], []], ())), ([], []))
        for thing in [(), (0,), (0, 0), (0, 1), (0, 0, 0), (0, 1, 1), (0, 0, 1, 1), (0, 0, 1, 0), (0, 0, 2), (0, 0, -1),
                      [0, 0, 1], (0, 0, True), (False, 0, 1), (0, 0, None), (0, 0, "1"), (0, 0, 1.0), (0, 0, (1,)),
                      ((0, 0, 1),), None, "001", {0: 1}, PLAN, Stranger(), (0, 0, 1, 2), (0, 0, 10 ** 39)]:
            with self.assertRaises(NoOrder, msg=thing):
                merged(hands, thing)
        for thing in VALUES + NO_VALUES:
            with self.assertRaises(NoOrder, msg=thing):
                merged(hands, thing)

    def test_bad_hands_ahead_of_the_order(self):
        for hands in NO_HANDS:
            for order in ((), None, (0, 1)):
                with self.assertRaises(BadHands, msg=hands):
                    merged(hands, order)

    def test_a_new_list(self):
        hands = [[A, B]]
        merged(hands, (0, 0)).clear()
        self.assertEqual(hands, [[A, B]])
        self.assertIsNot(merged(hands, (0, 0)), hands[0])


class Shown(unittest.TestCase):
    """Plans with hands and links, and what is to be found for them by a search through all orders."""

    def tried(self, seed, many, calls=5):
        found = []
        while len(found) < many:
            hands, links = hands_by(seed, calls)
            plan = plan_by(seed, seed.choice([1, 2, 2, 3]), is_free=seed.random() < 0.4, least=1, most=3)
            if seed.random() < 0.5 and plan.takers(C):
                hands = [[seed.choice([made for made in CALLS if takers(plan, made)]) for _ in hand] for hand in hands]
            if all_orders(hands, links):
                found.append((plan, hands, links))
        return found

    def shown_none(self, plan, hands, links):
        """For each cut the states that can be reached there."""
        states = {cut: set() for cut in cuts_of(hands, links)}
        for order in all_orders(hands, links):
            for many, some in enumerate(layers(plan, record_of(hands, order))):
                states[cut_of(hands, order[:many])] |= set(some)
        return [(cut, sorted(states[cut])) for cut in sorted(states)]

    def shown_all(self, plan, hands, links):
        """All different pairs of a cut and the states to which some order leads there."""
        pairs = {(cut_of(hands, order[:many]), tuple(some)) for order in all_orders(hands, links)
                 for many, some in enumerate(layers(plan, record_of(hands, order)))}
        return [(cut, list(states)) for cut, states in sorted(pairs)]


class SomeKept(Shown):

    def test_against_a_search(self):
        seed = random.Random(102)
        words = []
        for plan, hands, links in self.tried(seed, 250):
            kept = [order for order in all_orders(hands, links) if is_kept(plan, record_of(hands, order))]
            found = some_kept(plan, hands, links=links)
            self.assertTrue(identical(some_kept(plan=plan, hands=tuple(map(tuple, hands)), links=tuple(links)), found))
            words.append(found[0])
            if kept:
                self.assertTrue(identical(found[:2], ("kept", kept[0])), (plan.told, hands, links))
                self.assertEqual(len(found), 3)
                self.assertIn(found[2], assignments(plan, record_of(hands, kept[0])))
                states = self.shown_none(plan, hands, links)
                self.assertIs(is_none(plan, hands, states, links=links), False)
                self.assertIs(is_none(plan, hands, found[1], links=links), False)
            else:
                expected = self.shown_none(plan, hands, links)
                self.assertTrue(identical(found, ("none", expected)), (plan.told, hands, links))
                self.assertIs(is_none(plan, hands, found[1], links=links), True)
                for _, states in found[1]:
                    states.append(None)
                found[1].append(None)
                self.assertTrue(identical(some_kept(plan, hands, links=links), ("none", expected)))
        self.assertGreater(words.count("kept"), 50)
        self.assertGreater(words.count("none"), 50)

    def test_small_ones(self):
        self.assertEqual(some_kept(PLAN, [[B], [A]]), ("kept", (1, 0), ("a", "b")))
        self.assertEqual(some_kept(PLAN, [[B], [A]], links=[((0, 0), (1, 0))]),
                         ("none", [((0, 0), [(0, 0)]), ((1, 0), []), ((1, 1), [])]))
        self.assertEqual(some_kept(PLAN, [[]]), ("none", [((0,), [(0, 0)])]))
        self.assertEqual(some_kept(Plan(Expectation("a", AnyCall(), least=0)), [[], []]), ("kept", (), ()))


class IsNone(Shown):

    def found(self, seed, many):
        """Cases in which no order is kept, with the cuts and their states."""
        tried = [(case, self.shown_none(*case)) for case in self.tried(seed, many)]
        found = [(case, cuts) for case, cuts in tried if not ending(case[0], cuts[-1][1])]
        self.assertGreater(len(found), many // 5)
        return found

    def holds(self, case, thing):
        """Whether lists of states are closed as the document says."""
        plan, hands, links = case
        states = dict(thing)
        last = tuple(map(len, hands))
        if len(states) != len(thing) or sorted(states) != cuts_of(hands, links) or ending(plan, states[last]):
            return False
        return (0,) * len(plan.told) in states[(0,) * len(hands)] and all(
            next_states(plan, state, made) <= set(states[behind])
            for cut in states for made, behind in moves(hands, links, cut) for state in states[cut])

    def test_any_order_and_twice_and_as_tuples(self):
        seed = random.Random(103)
        for (plan, hands, links), cuts in self.found(seed, 120):
            mixed = seed.sample(cuts, len(cuts))
            loose = [(cut, seed.sample(states, len(states)) + states[:1]) for cut, states in mixed]
            for thing in (cuts, cuts[::-1], mixed, loose, tuple(cuts), [(cut, tuple(some)) for cut, some in loose],
                          tuple((cut, tuple(some)) for cut, some in cuts)):
                self.assertIs(is_none(plan, hands, thing, links=links), True)
            self.assertIs(is_none(plan=plan, hands=tuple(hands), thing=cuts, links=tuple(links)), True)

    def test_changed_ones(self):
        seed = random.Random(104)
        good, bad = 0, 0
        for case, cuts in self.found(seed, 150):
            plan, hands, links = case
            for at, (cut, states) in enumerate(cuts):
                before, behind = cuts[:at], cuts[at + 1:]
                self.assertIs(is_none(plan, hands, before + behind, links=links), False)
                self.assertIs(is_none(plan, hands, cuts + [(cut, states)], links=links), False)
                for place in range(len(states)):
                    less = before + [(cut, states[:place] + states[place + 1:])] + behind
                    self.assertIs(is_none(plan, hands, less, links=links), self.holds(case, less))
                    self.assertFalse(self.holds(case, less))
                spot = seed.randrange(len(cut))
                other = cut[:spot] + (cut[spot] + seed.choice([-1, 1]),) + cut[spot + 1:]
                self.assertIs(is_none(plan, hands, before + [(other, states)] + behind, links=links), False)
                state = tuple(seed.randint(0, row[3]) for row in plan.told)
                more = before + [(cut, states + [state])] + behind
                closed = self.holds(case, more)
                self.assertIs(is_none(plan, hands, more, links=links), closed, (plan.told, hands, links, more))
                good, bad = good + (closed and state not in states), bad + (not closed)
                if states:
                    place, spot = seed.randrange(len(states)), seed.randrange(len(plan.told))
                    row = list(states[place])
                    row[spot] += seed.choice([-1, 1])
                    new = before + [(cut, states[:place] + [tuple(row)] + states[place + 1:])] + behind
                    self.assertIs(is_none(plan, hands, new, links=links), False)
        self.assertGreater(good, 20)
        self.assertGreater(bad, 20)

    def test_never_if_some_order_is_kept(self):
        seed = random.Random(105)
        tried = 0
        for plan, hands, links in self.tried(seed, 80):
            if any(is_kept(plan, record_of(hands, order)) for order in all_orders(hands, links)):
                tried += 1
                every = list(itertools.product(*[range(row[3] + 1) for row in plan.told]))
                cuts = self.shown_none(plan, hands, links)
                less = [(cut, [state for state in states if not ending(plan, [state])]) for cut, states in cuts]
                for thing in (cuts, less, cuts[:-1] + less[-1:], [(cut, every) for cut, _ in cuts],
                              [(cut, []) for cut, _ in cuts], cuts[:-1] + [(cuts[-1][0], [])], cuts[:-1], [], None):
                    self.assertIs(is_none(plan, hands, thing, links=links), False)
        self.assertGreater(tried, 20)

    def test_other_things(self):
        good = [((0,), [(0, 0)])]
        self.assertIs(is_none(PLAN, [[]], good), True)
        for thing in [[((0,), (0, 0))], [((0,), [[0, 0]])], [((False,), [(0, 0)])], [((0,), [(0, False)])],
                      [((0,), [(False, 0)])], [([0], [(0, 0)])], [[(0,), [(0, 0)]]], [((0,),)], [((0,), [(0, 0)], 0)],
                      [((0, 0), [(0, 0)])], [((), [(0, 0)])], [(0, [(0, 0)])], [((1,), [(0, 0)])], [((-1,), [(0, 0)])],
                      [((0,), [(0, 0), None])], [((0,), [(0, 0), (0,)])], [((0,), [(0, 0), (0, 0, 0)])],
                      [((0,), [(0, 0), (2, 0)])], [((0,), [(0, 0), (-1, 0)])], [((0,), {(0, 0): 1})], [((0,), None)],
                      [((0,), "")], [((0,), [])], {(0,): [(0, 0)]}, {((0,), ((0, 0),)): 1}, "none", ("none", good),
                      [good], [good[0], None], [good[0], good[0]], [((0.0,), [(0, 0)])], good + [((1,), [])]]:
            self.assertIs(is_none(PLAN, [[]], thing), False, thing)
        for thing in NO_LISTS + VALUES + NO_VALUES:
            self.assertIs(is_none(PLAN, [[]], thing), False, thing)
            self.assertIs(is_none(PLAN, [[A], [B]], thing), False, thing)
            self.assertIs(is_all(PLAN, [[A, B]], thing), False, thing)


class AllKept(Shown):

    def test_against_a_search(self):
        seed = random.Random(106)
        words = []
        for plan, hands, links in self.tried(seed, 200):
            refused = [order for order in all_orders(hands, links) if not is_kept(plan, record_of(hands, order))]
            found = all_kept(plan, hands, links=links)
            self.assertTrue(identical(all_kept(plan=plan, hands=tuple(map(tuple, hands)), links=tuple(links)), found))
            words.append(found[0])
            cuts = self.shown_all(plan, hands, links)
            if refused:
                self.assertTrue(identical(found, ("not", refused[0])), (plan.told, hands, links))
                self.assertIs(is_all(plan, hands, cuts, links=links), False)
                self.assertIs(is_all(plan, hands, found[1], links=links), False)
            else:
                self.assertTrue(identical(found, ("all", cuts)), (plan.told, hands, links))
                self.assertIs(is_all(plan, hands, found[1], links=links), True)
                for _, states in found[1]:
                    states.append(None)
                found[1].append(None)
                self.assertTrue(identical(all_kept(plan, hands, links=links), ("all", cuts)))
        self.assertGreater(words.count("all"), 15)
        self.assertGreater(words.count("not"), 60)

    def test_small_ones(self):
        self.assertEqual(all_kept(PLAN, [[A], [B]]), ("not", (1, 0)))
        self.assertEqual(all_kept(PLAN, [[A], [B]], links=[((0, 0), (1, 0))]),
                         ("all", [((0, 0), [(0, 0)]), ((1, 0), [(1, 0)]), ((1, 1), [(1, 1)])]))
        self.assertEqual(all_kept(PLAN, [[]]), ("not", ()))
        self.assertEqual(all_kept(Plan(Expectation("a", AnyCall(), least=0)), [[]]), ("all", [((0,), [(0,)])]))

    def test_several_lists_of_states_at_one_cut(self):
        plan = Plan(Expectation("a", AnyCall()), Expectation("b", Calls("b"), after=["a"]),
                    Expectation("c", AnyCall(), least=0, most=2))
        self.assertEqual(all_kept(plan, [[A], [B, B]])[0], "all")
        cuts = all_kept(plan, [[A], [B, B]])[1]
        self.assertEqual([cut for cut, _ in cuts].count((1, 1)), 2)
        self.assertEqual(cuts, sorted(cuts))


class IsAll(Shown):

    def found(self, seed, many):
        """Cases in which all orders are kept, with the pairs of the cuts."""
        found = []
        while len(found) < many:
            for case in self.tried(seed, 20):
                cuts = self.shown_all(*case)
                if all(ending(case[0], states) for cut, states in cuts if cut == cuts[-1][0]):
                    found.append((case, cuts))
        return found

    def following(self, case, cut, states):
        plan, hands, links = case
        return [(behind, sorted({new for state in states for new in next_states(plan, state, made)}))
                for made, behind in moves(hands, links, cut)]

    def holds(self, case, thing):
        """Whether pairs are closed as the document says."""
        plan, hands, links = case
        pairs = [(cut, sorted(set(states))) for cut, states in thing]
        if any(cut not in cuts_of(hands, links) for cut, _ in pairs):
            return False
        if ((0,) * len(hands), [(0,) * len(plan.told)]) not in pairs:
            return False
        ends = all(ending(plan, states) for cut, states in pairs if cut == tuple(map(len, hands)))
        return ends and all(new in pairs for cut, states in pairs for new in self.following(case, cut, states))

    def test_any_order_and_twice_and_as_tuples(self):
        seed = random.Random(107)
        for (plan, hands, links), cuts in self.found(seed, 40):
            mixed = seed.sample(cuts, len(cuts))
            loose = [(cut, seed.sample(states, len(states)) + states[:1]) for cut, states in mixed]
            for thing in (cuts, cuts[::-1], mixed, loose, tuple(cuts), [(cut, tuple(some)) for cut, some in loose],
                          tuple((cut, tuple(some)) for cut, some in cuts), cuts + loose):
                self.assertIs(is_all(plan, hands, thing, links=links), True)
            self.assertIs(is_all(plan=plan, hands=tuple(hands), thing=cuts, links=tuple(links)), True)

    def test_pairs_that_no_order_leads_to(self):
        seed = random.Random(108)
        good, bad = 0, 0
        for case, cuts in self.found(seed, 60):
            plan, hands, links = case
            for _ in range(4):
                every = list(itertools.product(*[range(row[3] + 1) for row in plan.told]))
                some = sorted(seed.sample(every, seed.randint(0, min(3, len(every)))))
                more, left = list(cuts), [(seed.choice(cuts_of(hands, links)), some)]
                while left:
                    new = left.pop()
                    if new not in more:
                        more.append(new)
                        left.extend(self.following(case, *new))
                closed = self.holds(case, more)
                self.assertIs(is_all(plan, hands, more, links=links), closed, (plan.told, hands, links, more))
                good, bad = good + (closed and len(more) > len(cuts)), bad + (not closed)
        self.assertGreater(good, 10)
        self.assertGreater(bad, 10)

    def test_changed_ones(self):
        seed = random.Random(109)
        for case, cuts in self.found(seed, 60):
            plan, hands, links = case
            for at, (cut, states) in enumerate(cuts):
                before, behind = cuts[:at], cuts[at + 1:]
                self.assertIs(is_all(plan, hands, before + behind, links=links), False)
                place = seed.randrange(len(states))
                less = before + [(cut, states[:place] + states[place + 1:])] + behind
                self.assertIs(is_all(plan, hands, less, links=links), False)
                spot = seed.randrange(len(cut))
                other = cut[:spot] + (cut[spot] + seed.choice([-1, 1]),) + cut[spot + 1:]
                new = before + [(other, states)] + behind
                self.assertIs(is_all(plan, hands, new, links=links), False)
                row = list(states[place])
                row[seed.randrange(len(row))] += seed.choice([-1, 1])
                new = before + [(cut, states[:place] + [tuple(row)] + states[place + 1:])] + behind
                self.assertIs(is_all(plan, hands, new, links=links), False)

    def test_never_if_some_order_is_not_kept(self):
        seed = random.Random(110)
        tried = 0
        for plan, hands, links in self.tried(seed, 60):
            if any(not is_kept(plan, record_of(hands, order)) for order in all_orders(hands, links)):
                tried += 1
                cuts = self.shown_all(plan, hands, links)
                every = list(itertools.product(*[range(row[3] + 1) for row in plan.told]))
                for thing in (cuts, cuts[:-1], [(cut, every) for cut, _ in cuts], cuts + [(cuts[-1][0], every)], [],
                              [pair for pair in cuts if ending(plan, pair[1]) or pair[0] != cuts[-1][0]]):
                    self.assertIs(is_all(plan, hands, thing, links=links), False)
        self.assertGreater(tried, 25)

    def test_other_things(self):
        plan = Plan(Expectation("a", Calls("a"), least=0))
        good = [((0,), [(0,)]), ((1,), [(1,)])]
        self.assertIs(is_all(plan, [[A]], good), True)
        for pair in [((1,), (1,)), ((1,), [[1]]), ((True,), [(1,)]), ((1,), [(True,)]), ([1], [(1,)]), [(1,), [(1,)]],
                     ((1,),), ((1,), [(1,)], 0), ((1, 0), [(1,)]), ((), [(1,)]), (1, [(1,)]), ((2,), [(1,)]),
                     ((-1,), [(0,)]), ((1,), [(1,), None]), ((1,), [(1,), (2,)]), ((1,), [(1,), (1, 0)]), None, (),
                     "ab", ((1,), {(1,): 1}), ((1,), None), ((1,), ""), ((1,), []), ((1.0,), [(1,)]), ((1,), [(1.0,)])]:
            for thing in (good[:1] + [pair], good + [pair], [pair] + good):
                self.assertIs(is_all(plan, [[A]], thing), False, pair)
        for thing in [dict(good[:1]), {}, "all", ("all", good), [good], [[]], good[:1], good[1:]]:
            self.assertIs(is_all(plan, [[A]], thing), False, thing)


class Refused(unittest.TestCase):

    def functions(self, hands, links):
        return (lambda: some_kept(PLAN, hands, links=links), lambda: all_kept(PLAN, hands, links=links),
                lambda: is_none(PLAN, hands, [], links=links), lambda: is_all(PLAN, hands, None, links=links),
                lambda: is_none(PLAN, hands, None, links=links), lambda: is_all(PLAN, hands, [], links=links))

    def test_bad_hands(self):
        for hands in NO_HANDS:
            for links in ((), [((0, 0), (1, 0))], None):
                for function in self.functions(hands, links):
                    with self.assertRaises(BadHands, msg=hands):
                        function()

    def test_links_that_are_none(self):
        for links in NO_LINKS + TANGLED:
            for function in self.functions([[A, B], [C]], links):
                with self.assertRaises(BadHands, msg=links):
                    function()
        for hands in ([[]], [[], []]):
            for function in self.functions(hands, [((0, 0), (0, 0))]):
                with self.assertRaises(BadHands):
                    function()

    def test_links_that_hold_anyway(self):
        for links in ([((0, 0), (0, 1))], [((0, 0), (0, 1)), ((0, 0), (0, 1))], [((0, 0), (0, 2)), ((0, 1), (0, 2))]):
            self.assertEqual(list(orders([[A, B, C], [C]], links=links)), all_orders([[A, B, C], [C]]))

    def test_circles_of_three_hands(self):
        hands = [[A, B], [A, B], [A, B]]
        good = [((0, 0), (1, 1)), ((1, 0), (2, 1)), ((2, 0), (0, 1))]
        self.assertEqual(list(orders(hands, links=good)), all_orders(hands, good))
        bad = [((0, 1), (1, 0)), ((1, 1), (2, 0)), ((2, 1), (0, 0))]
        self.assertRaises(BadHands, next, orders(hands, links=bad))
        for function in self.functions(hands, bad):
            self.assertRaises(BadHands, function)

    def test_nothing_is_changed(self):
        hands, links, thing = [[A], [B]], [((0, 0), (1, 0))], [((0, 0), [(0, 0)])]
        for function in self.functions(hands, links):
            function()
        is_none(PLAN, hands, thing, links=links)
        is_all(PLAN, hands, thing, links=links)
        list(orders(hands, links=links))
        self.assertEqual((hands, links, thing), ([[A], [B]], [((0, 0), (1, 0))], [((0, 0), [(0, 0)])]))


class Limits(unittest.TestCase):

    def test_nine_calls(self):
        names = "abcdef"
        plan = Plan(*[Expectation(name, Calls("it", Between(at, 9)), least=0, most=3) for at, name in enumerate(names)])
        hands = [[call("it", (3 * hand + at) % 7) for at in range(3)] for hand in range(3)]
        word, cuts = all_kept(plan, hands)
        self.assertEqual(word, "all")
        self.assertIs(is_all(plan, hands, cuts), True)
        self.assertEqual(some_kept(plan, hands)[:2], ("kept", (0, 0, 0, 1, 1, 1, 2, 2, 2)))
        chain = Plan(*[Expectation(name, Calls("it", Between(at, at + 3)), most=3, after=list(names[:at]))
                       for at, name in enumerate(names)])
        rising = [[call("it", at) for at in some] for some in ((0, 1, 2), (1, 2, 4), (3, 5, 6))]
        self.assertEqual(some_kept(chain, rising, links=[((0, 0), (1, 0)), ((1, 0), (2, 0))])[0], "kept")
        late = Plan(*chain.expectations[:5], Expectation("f", Calls("it", Exactly(9)), after=["e"]))
        word, cuts = some_kept(late, hands)
        self.assertEqual((word, len(cuts)), ("none", 64))
        self.assertIs(is_none(late, hands, cuts), True)


if __name__ == "__main__":
    unittest.main()
