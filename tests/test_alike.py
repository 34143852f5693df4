"""Promise [18]: whether one plan keeps all that another one keeps, and which orders are needless; with [2] (i)."""

import itertools
import random
import unittest

from calltakers.alike import contained, is_containment, needless
from calltakers.patterns import AnyCall, Between, Calls, Exactly, Not
from calltakers.plans import Expectation, Plan
from calltakers.values import call, is_call
from plan_reference import ALL_CALLS, all_records, behind, ending, is_kept, plan_by, takers
from reference import identical
from samples import NO_VALUES, VALUES, Stranger

IT = Calls("it")


def rebuilt(plan, **changes):
    """The plan with other numbers, patterns or orders: a dict from names for each."""
    rows = []
    for one in plan.expectations:
        pick = {key: change.get(one.name, getattr(one, key)) for key, change in changes.items()}
        parts = {"least": one.least, "most": one.most, "after": one.after, "pattern": one.pattern} | pick
        rows.append(Expectation(one.name, parts.pop("pattern"), **parts))
    return Plan(*rows)


def next_states(plan, state, made):
    """The states behind a call, by the words of [15]."""
    rows, pairs, found = plan.told, behind(plan), set()
    for index in takers(plan, made):
        ready = state[index] < rows[index][3]
        ready = ready and all(state[other] >= rows[other][2] for one, other in pairs if one == index)
        if ready and all(state[one] == 0 for one, other in pairs if other == index):
            found.add(tuple(taken + (at == index) for at, taken in enumerate(state)))
    return found


class Search:
    """The pairs of the states of two plans, all of which are found by steps; or a shortest record that tells apart."""

    def __init__(self, plan, other):
        self.plan, self.other = plan, other
        classes = {(tuple(takers(plan, made)), tuple(takers(other, made))): made for made in ALL_CALLS}
        self.calls = list(classes.values())
        self.noughts = ((0,) * len(plan.told), ((0,) * len(other.told),))

    def following(self, pair):
        found = set()
        for made in self.calls:
            more = tuple(sorted({new for state in pair[1] for new in next_states(self.other, state, made)}))
            found |= {(new, more) for new in next_states(self.plan, pair[0], made)}
        return found

    def is_good(self, pair):
        return bool(ending(self.other, pair[1])) or not ending(self.plan, [pair[0]])

    def shown(self):
        """(the pairs, None), or (None, the number of calls of a shortest record that tells apart)."""
        level, seen, many = {self.noughts}, {self.noughts}, 0
        while level:
            if not all(map(self.is_good, level)):
                return None, many
            level = {new for pair in level for new in self.following(pair)} - seen
            seen |= level
            many += 1
        return seen, None

    def is_closed(self, pairs):
        return (self.noughts in pairs and all(map(self.is_good, pairs))
                and all(self.following(pair) <= set(pairs) for pair in pairs))


def changed(seed, plan):
    """A plan that differs from this one in one thing."""
    rows = list(plan.expectations)
    at = seed.randrange(len(rows))
    one = rows[at]
    word = seed.choice(["number", "pattern", "order", "less", "more", "sequence", "answer"])
    if word == "number":
        low = seed.randint(0, 2)
        return rebuilt(plan, least={one.name: low}, most={one.name: seed.randint(max(1, low), 2)})
    if word == "pattern":
        return rebuilt(plan, pattern={one.name: plan_by(seed, 1).expectations[0].pattern})
    if word == "order":
        return rebuilt(plan, after={one.name: [name for name in plan.names()[:at] if seed.random() < 0.5]})
    if word == "less" and len(rows) > 1 and not any(one.name in other.after for other in rows):
        return Plan(*rows[:at], *rows[at + 1:])
    if word == "more" and "more" not in plan.names():
        return Plan(*rows, Expectation("more", seed.choice(rows).pattern, least=seed.randint(0, 1)))
    if word == "sequence" and plan.is_free:
        return Plan(*rows[::-1])
    return Plan(*[Expectation(row.name, row.pattern, least=row.least, most=row.most, after=row.after, answer=5)
                  for row in rows])


def pairs_of_plans(seed, many):
    """Small plans side by side, one of them changed from the other one."""
    for _ in range(many):
        plan = plan_by(seed, seed.choice([1, 2, 2, 3]), is_free=seed.random() < 0.5, least=1, most=2)
        other = changed(seed, plan)
        if seed.random() < 0.3:
            other = changed(seed, other)
        yield seed.choice([(plan, other), (other, plan)])


class Contained(unittest.TestCase):

    def check(self, plan, other):
        """What contained says of two plans, against the search; its word and thing."""
        pairs, many = Search(plan, other).shown()
        word, thing = contained(plan, other)
        self.assertTrue(identical(contained(plan=plan, other=other), (word, thing)))
        self.assertIs(type(thing), list)
        if pairs is None:
            self.assertEqual(word, "apart", (plan.told, other.told))
            self.assertTrue(all(map(is_call, thing)))
            self.assertEqual(len(thing), many, (plan.told, other.told, thing))
            self.assertTrue(is_kept(plan, thing), (plan.told, thing))
            self.assertFalse(is_kept(other, thing), (other.told, thing))
            self.assertIs(is_containment(plan, other, thing), False)
        else:
            self.assertEqual(word, "within", (plan.told, other.told))
            self.assertIs(is_containment(plan, other, thing), True)
            self.assertTrue(all(type(pair) is tuple and len(pair) == 2 for pair in thing))
            self.assertTrue(all(type(item) is tuple for _, states in thing for item in (states,) + states))
            self.assertTrue(Search(plan, other).is_closed(thing))
        kept = list(thing)
        thing.append(None)
        self.assertTrue(identical(contained(plan, other), (word, kept)))
        return word

    def test_against_a_search_through_states(self):
        seed = random.Random(81)
        words = [self.check(plan, other) for plan, other in pairs_of_plans(seed, 220)]
        self.assertGreater(words.count("within"), 60)
        self.assertGreater(words.count("apart"), 60)

    def test_against_a_search_through_records(self):
        seed = random.Random(82)
        words = []
        for plan, other in pairs_of_plans(seed, 200):
            total = sum(row[3] for row in plan.told)
            calls = Search(plan, other).calls
            if total > 4 or len(calls) ** total > 1000:
                continue
            apart = [record for record in all_records(calls, total) if is_kept(plan, record)
                     and not is_kept(other, record)]
            word, thing = contained(plan, other)
            words.append(word)
            self.assertEqual(word, "apart" if apart else "within", (plan.told, other.told))
            if apart:
                self.assertEqual(len(thing), len(apart[0]))
        self.assertGreater(words.count("within"), 30)
        self.assertGreater(words.count("apart"), 20)

    def test_a_plan_is_contained_in_itself(self):
        seed = random.Random(83)
        for count in (1, 2, 3, 4):
            for is_free in (True, False):
                for _ in range(6):
                    plan = plan_by(seed, count, is_free=is_free, most=2)
                    word, thing = contained(plan, plan)
                    self.assertEqual(word, "within")
                    self.assertIs(is_containment(plan, plan, thing), True)
                    self.assertEqual(contained(plan, Plan.of(plan.told))[0], "within")

    def test_the_sequence_has_no_meaning(self):
        plan = Plan(Expectation("a", Calls("it", Between(0, 5)), most=2), Expectation("b", AnyCall(), least=0),
                    Expectation("c", Calls("it", Exactly(3))))
        for some in itertools.permutations(plan.expectations):
            self.assertEqual(contained(plan, Plan(*some))[0], "within")

    def test_small_ones(self):
        one, two = Plan(Expectation("a", IT)), Plan(Expectation("b", IT, least=0, most=2))
        self.assertEqual(contained(one, two)[0], "within")
        self.assertEqual(contained(two, one), ("apart", []))
        lone = Plan(Expectation("a", IT, least=0))
        self.assertEqual(contained(two, lone), ("apart", [call("it")] * 2))
        self.assertEqual(contained(Plan(Expectation("a", Calls("it", Not(Exactly(1))))), one)[0], "apart")
        self.assertEqual(contained(one, Plan(Expectation("a", AnyCall())))[0], "within")
        ways = contained(lone, two)
        self.assertEqual((ways[0], sorted(ways[1])), ("within", [((0,), ((0,),)), ((1,), ((1,),))]))

    def test_a_record_longer_than_the_first_failure(self):
        # Two calls are lost already for the other plan, but the plan keeps nothing shorter than five calls.
        plan = Plan(Expectation("a", AnyCall(), least=5, most=5))
        other = Plan(Expectation("a", IT), Expectation("b", IT, least=4, most=4))
        word, record = contained(plan, other)
        self.assertEqual((word, len(record)), ("apart", 5))


class Containment(unittest.TestCase):

    def shown(self, seed, many):
        """Plans with pairs that show that one is contained in the other, not too many."""
        found = []
        for plan, other in pairs_of_plans(seed, many):
            word, thing = contained(plan, other)
            if word == "within" and 1 < len(thing) < 40:
                found.append((plan, other, thing))
        self.assertGreater(len(found), 20)
        return found

    def test_any_order_and_twice_and_as_a_tuple(self):
        seed = random.Random(84)
        for plan, other, thing in self.shown(seed, 120):
            mixed = list(thing)
            seed.shuffle(mixed)
            for good in (thing[::-1], mixed, tuple(thing), thing + thing, thing + [thing[0]], sorted(thing)):
                self.assertIs(is_containment(plan, other, good), True)
            self.assertIs(is_containment(plan=plan, other=other, thing=thing), True)

    def test_one_pair_less(self):
        for plan, other, thing in self.shown(random.Random(85), 120):
            for at in range(len(thing)):
                self.assertIs(is_containment(plan, other, thing[:at] + thing[at + 1:]), False)
            self.assertIs(is_containment(plan, other, []), False)

    def test_more_pairs(self):
        seed = random.Random(86)
        good, bad = 0, 0
        for plan, other, thing in self.shown(seed, 150):
            search = Search(plan, other)
            states = list(itertools.product(*[range(row[3] + 1) for row in plan.told]))
            others = list(itertools.product(*[range(row[3] + 1) for row in other.told]))
            for _ in range(6):
                pair = (seed.choice(states), tuple(sorted(seed.sample(others, seed.randint(0, min(3, len(others)))))))
                more, left = list(thing), [pair]
                while left:
                    new = left.pop()
                    if new not in more:
                        more.append(new)
                        left.extend(search.following(new))
                closed = all(map(search.is_good, more))
                self.assertIs(is_containment(plan, other, more), closed, (plan.told, other.told, more))
                good, bad = good + (closed and len(more) > len(thing)), bad + (not closed)
                if len(more) > len(thing) + 1:
                    at = seed.randrange(len(more))
                    less = more[:at] + more[at + 1:]
                    self.assertIs(is_containment(plan, other, less), search.is_closed(less))
        self.assertGreater(good, 20)
        self.assertGreater(bad, 20)

    def test_a_changed_state(self):
        seed = random.Random(87)
        for plan, other, thing in self.shown(seed, 120):
            search = Search(plan, other)
            for _ in range(12):
                at = seed.randrange(len(thing))
                state, states = thing[at]
                if states and seed.random() < 0.7:
                    place = seed.randrange(len(states))
                    spot = seed.randrange(len(states[place]))
                    row = list(states[place])
                    row[spot] += seed.choice([-1, 1])
                    pair = (state, states[:place] + (tuple(row),) + states[place + 1:])
                else:
                    spot = seed.randrange(len(state))
                    pair = (state[:spot] + (state[spot] + seed.choice([-1, 1]),) + state[spot + 1:], states)
                new = thing[:at] + [pair] + thing[at + 1:]
                self.assertIs(is_containment(plan, other, new), False, (plan.told, other.told, new))
                fits = all(0 <= taken <= row[3] for part, rows in ((pair[0:1], plan.told), (pair[1], other.told))
                           for one in part for taken, row in zip(one, rows))
                if fits and list(pair[1]) == sorted(set(pair[1])):
                    self.assertFalse(search.is_closed(new))

    def test_things_that_are_no_pairs(self):
        plan = Plan(Expectation("a", IT, least=0), Expectation("b", AnyCall(), least=0, most=2))
        word, thing = contained(plan, plan)
        self.assertEqual(word, "within")
        at = [len(states) > 1 for _, states in thing].index(True)
        state, states = thing[at]
        before, rest = thing[:at], thing[at + 1:]
        wrong = [(state, states[::-1]), (state, list(states)), (list(state), states), [state, states], (state,),
                 (state, states, states), (states, state), (state, states + states[-1:]), (state, states[:1] + states),
                 (state, states[0]), (state, None), (None, states), (state, {row: 1 for row in states}),
                 (state, tuple(list(row) for row in states)), (state, states[:-1] + (None,)), None, (), state,
                 (state, states[:-1] + ("00",)), (state + (0,), states), (state[:1], states), "ab", {}, 1, True,
                 (state, states[:-1] + (states[-1] + (0,),)), (state, states[:-1] + (states[-1][:1],)), (state, "")]
        for pair in wrong:
            for new in (before + [pair] + rest, thing + [pair], [pair] + thing):
                self.assertIs(is_containment(plan, plan, new), False, pair)

    def test_bools_are_no_numbers(self):
        plan = Plan(Expectation("a", IT, least=0))
        self.assertIs(is_containment(plan, plan, [((0,), ((0,),)), ((1,), ((1,),))]), True)
        for thing in ([((False,), ((0,),)), ((1,), ((1,),))], [((0,), ((False,),)), ((1,), ((1,),))],
                      [((0,), ((0,),)), ((True,), ((1,),))], [((0,), ((0,),)), ((1,), ((True,),))],
                      [((0,), ((0,),)), ((1,), ((1,),)), ((1,), ((True,),))],
                      [((0,), ((0,),)), ((1,), ((1,),)), ((True,), ((1,),))],
                      [((0.0,), ((0,),)), ((1,), ((1,),))], [((0,), ((0.0,),)), ((1,), ((1,),))]):
            self.assertIs(is_containment(plan, plan, thing), False, thing)

    def test_every_other_value(self):
        plan = Plan(Expectation("a", IT, least=0))
        for thing in VALUES + NO_VALUES + [plan, Stranger(), {((0,), ((0,),)): 1}, "within", ("within", []),
                                           ("within", [((0,), ((0,),)), ((1,), ((1,),))]), [[]], [()], [None]]:
            self.assertIs(is_containment(plan, plan, thing), False, thing)

    def test_never_of_plans_that_are_apart(self):
        seed = random.Random(88)
        tried = 0
        for plan, other in pairs_of_plans(seed, 150):
            pairs, _ = Search(plan, other).shown()
            if pairs is None:
                tried += 1
                states = list(itertools.product(*[range(row[3] + 1) for row in plan.told]))
                others = tuple(itertools.product(*[range(row[3] + 1) for row in other.told]))
                self.assertIs(is_containment(plan, other, [(state, others) for state in states]), False)
                word, record = contained(plan, other)
                self.assertEqual(word, "apart")
                search, level = Search(plan, other), {Search(plan, other).noughts}
                seen = set(level)
                while level:
                    level = {new for pair in level for new in search.following(pair)} - seen
                    seen |= level
                self.assertIs(is_containment(plan, other, sorted(seen)), False)
        self.assertGreater(tried, 30)


class Needless(unittest.TestCase):

    def check(self, plan):
        expected = []
        for name in plan.names():
            for other in plan.names():
                after = plan.expectation(name).after
                if other in after:
                    less = rebuilt(plan, after={name: [one for one in after if one != other]})
                    if Search(less, plan).shown()[0] is not None:
                        expected.append((name, other))
        self.assertTrue(identical(needless(plan), expected), (plan.told, needless(plan), expected))
        self.assertTrue(identical(needless(plan=plan), expected))
        needless(plan).append(None)
        self.assertEqual(needless(plan), expected)
        return "some" if expected else "free" if plan.is_free else "none"

    def test_against_a_search(self):
        seed = random.Random(89)
        words = []
        for count, most in ((2, 2), (3, 2), (3, 1), (4, 1)):
            for _ in range(40):
                words.append(self.check(plan_by(seed, count, is_free=False, least=1, most=most)))
        for word in ("some", "none", "free"):
            self.assertGreater(words.count(word), 15, word)

    def test_by_way_of_a_third_one(self):
        rows = [Expectation("a", Calls("it", Exactly(1))), Expectation("b", Calls("it", Exactly(2)), after=["a"]),
                Expectation("c", Calls("it", Exactly(3)), after=["b", "a"])]
        self.assertEqual(needless(Plan(*rows)), [("c", "a")])
        rows.append(Expectation("d", Calls("it", Exactly(4)), after=["c", "a", "b"]))
        self.assertEqual(needless(Plan(*rows)), [("c", "a"), ("d", "a"), ("d", "b")])
        # Of two ways round each entry is looked at alone.
        rows[2] = Expectation("c", Calls("it", Exactly(3)), after=["a"])
        rows[3] = Expectation("d", Calls("it", Exactly(4)), after=["b", "c"])
        self.assertEqual(needless(Plan(*rows)), [])
        seed = random.Random(90)
        for _ in range(30):
            plan = plan_by(seed, 4, is_free=False, least=1, most=1)
            for one in plan.expectations:
                for other in one.after:
                    if any(other in plan.expectation(third).after for third in one.after):
                        self.assertIn((one.name, other), needless(plan))

    def test_entries_that_change_nothing(self):
        # Calls of the same kind can be taken in the order that is asked for.
        self.assertEqual(needless(Plan(Expectation("a", AnyCall()), Expectation("b", AnyCall(), after=["a"]))),
                         [("b", "a")])
        wide = Plan(Expectation("a", IT), Expectation("b", AnyCall(), after=["a"]))
        self.assertEqual(needless(wide), [])

    def test_the_order_of_the_pairs(self):
        rows = [Expectation(name, AnyCall()) for name in ("z", "m", "a")]
        rows.append(Expectation("b", AnyCall(), after=["a", "z", "m"]))
        rows.append(Expectation("it", AnyCall(), after=["b", "m", "z", "a"]))
        self.assertEqual(needless(Plan(*rows)), [("b", "z"), ("b", "m"), ("b", "a"), ("it", "z"), ("it", "m"),
                                                 ("it", "a"), ("it", "b")])

    def test_free_plans(self):
        seed = random.Random(91)
        for count in range(1, 7):
            self.assertEqual(needless(plan_by(seed, count)), [])


class Limits(unittest.TestCase):

    def test_many_states(self):
        names = "abcdef"
        wide = Plan(*[Expectation(name, AnyCall(), least=0, most=3) for name in names])
        word, thing = contained(wide, wide)
        self.assertEqual((word, len(thing)), ("within", 4096))
        self.assertIs(is_containment(wide, wide, thing), True)
        self.assertIs(is_containment(wide, wide, thing[:-1]), False)
        chain = Plan(*[Expectation(name, AnyCall(), least=0, most=3, after=list(names[:at]))
                       for at, name in enumerate(names)])
        self.assertEqual(len(needless(chain)), 15)
        low = Plan(*[Expectation(name, Calls("it", Between(at, 9)), least=0, most=3, after=list(names[:at]))
                     for at, name in enumerate(names)])
        self.assertEqual(len(needless(low)), 10)
        self.assertEqual(contained(low, wide)[0], "within")
        self.assertEqual(contained(wide, low)[0], "apart")


if __name__ == "__main__":
    unittest.main()
