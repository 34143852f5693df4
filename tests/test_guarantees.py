"""Promise [2] over the whole program: guarantees (a) to (k), by the functions of the package against searches."""

import itertools
import random
import unittest

from calltakers.alike import contained, is_containment
from calltakers.assigning import assigned, is_crowded, is_needy, may_take
from calltakers.cases import classes, common, example
from calltakers.certainty import answers, certain_at, could_take
from calltakers.errors import BadRecord, BadText, BadValue, Faulted, Lost, TakerError, Undecided, Unexpected
from calltakers.firstfit import first_fit, righted, trap, wrong_pair
from calltakers.hands import all_kept, is_all, is_none, merged, orders, some_kept
from calltakers.patterns import AnyCall, Calls, Pattern
from calltakers.places import Places
from calltakers.plans import Expectation, Plan, is_assignment
from calltakers.rules import Opponent, conflict, narrowest, spared
from calltakers.standins import Fault, Standin
from calltakers.states import is_refusal, ordered, reached
from calltakers.strict import Strict
from calltakers.texts import (call_text, pattern_text, plan_text, read_call, read_calls, read_pattern, read_plan,
                              read_value, value_text)
from calltakers.values import call
from calltakers.watching import Watcher
from plan_reference import (ALL_CALLS, CALLS, PATTERNS, all_records, assignments, is_kept, plan_by, record_by, takers)
from plenty import MANY_CALLS, UNIVERSE, call_pattern_by, pattern_by
from reference import identical, told_accepts, told_accepts_call
from samples import VALUES
from test_rules import NESTED


def small_plans(number, many, *, is_free, least=1, most=2, counts=(1, 2, 2, 3)):
    seed = random.Random(number)
    patterns = (PATTERNS, NESTED)
    return [plan_by(seed, seed.choice(counts), is_free=is_free, least=least, most=most, patterns=patterns[at % 2])
            for at in range(many)]


def class_calls(plan):
    """A call of each class of a plan, of those that the reference knows."""
    return list({tuple(takers(plan, made)): made for made in ALL_CALLS}.values())


def total(plan):
    return sum(row[3] for row in plan.told)


def small_records(plan, most=4, many=700):
    """All records of the classes of a plan, up to as many calls as it takes and one, if they are not too many."""
    calls = class_calls(plan)
    size = min(most, total(plan) + 1)
    while len(calls) ** size > many:
        size -= 1
    return all_records(calls, size)


class Patterns(unittest.TestCase):

    def test_a_values(self):
        seed = random.Random(171)
        for _ in range(150):
            one, other = pattern_by(seed, 3), pattern_by(seed, 3)
            inside = [told_accepts(one.told, value) for value in UNIVERSE]
            beside = [told_accepts(other.told, value) for value in UNIVERSE]
            self.assertEqual([one.accepts(value) for value in UNIVERSE], inside)
            for found, right, is_there in ((example(one, outside=[other]), (True, False),
                                            any(a and not b for a, b in zip(inside, beside))),
                                           (common(one, other), (True, True), any(map(min, inside, beside)))):
                if found is None:
                    self.assertIs(is_there, False)
                else:
                    self.assertEqual((told_accepts(one.told, found[0]), told_accepts(other.told, found[0])), right)

    def test_a_calls(self):
        seed = random.Random(172)
        for _ in range(60):
            one, other = call_pattern_by(seed, 2), call_pattern_by(seed, 2)
            inside = [told_accepts_call(one.told, made) for made in MANY_CALLS]
            beside = [told_accepts_call(other.told, made) for made in MANY_CALLS]
            self.assertEqual([one.accepts(made) for made in MANY_CALLS], inside)
            if example(one, outside=[other]) is None:
                self.assertFalse(any(a and not b for a, b in zip(inside, beside)))
            if common(one, other) is None:
                self.assertFalse(any(map(min, inside, beside)))

    def test_b_classes(self):
        seed = random.Random(173)
        for _ in range(60):
            patterns = [call_pattern_by(seed, 2) for _ in range(seed.randint(0, 4))]
            found = classes(patterns)
            for marks, made in found:
                self.assertEqual(marks, tuple(told_accepts_call(pattern.told, made) for pattern in patterns))
            known = {tuple(told_accepts_call(pattern.told, made) for pattern in patterns) for made in MANY_CALLS}
            self.assertLessEqual(known, {marks for marks, _ in found})

    def told_of(self, plan, record):
        """All that the package says of a record by names, indexes and states."""
        said = [ordered(plan, record), reached(plan, record)]
        watcher = Watcher(plan)
        said.append([watcher.see(made) for made in record])
        if watcher.verdict != "lost":
            said += [answers(plan, record), certain_at(plan, record), len(watcher.rest())]
            said += [could_take(plan, record, index) for index in range(len(record))]
        if plan.is_free:
            found = assigned(plan, record)
            said.append(found)
            if found[0] == "kept":
                said += [list(may_take(plan, record, index).items()) for index in range(len(record))]
            said.append(None if conflict(plan) else narrowest(plan, record))
            said.append(first_fit(plan, record) if all(row[2] == 0 for row in plan.told) else None)
        hands = [record[:2], record[2:]]
        return said + [some_kept(plan, hands), all_kept(plan, hands)]

    def test_b_calls_of_one_class_are_interchangeable(self):
        seed = random.Random(174)
        for is_free in (True, False):
            for plan in small_plans(175, 60, is_free=is_free):
                alike = {}
                for made in ALL_CALLS:
                    alike.setdefault(tuple(takers(plan, made)), []).append(made)
                for _ in range(4):
                    groups = [seed.choice(list(alike.values())) for _ in range(4)]
                    one, other = [[seed.choice(group) for group in groups] for _ in range(2)]
                    self.assertTrue(identical(self.told_of(plan, one), self.told_of(plan, other)))


class Records(unittest.TestCase):

    def test_c_kept_or_crowded_or_needy(self):
        words = []
        for plan in small_plans(176, 40, is_free=True):
            for record in small_records(plan, many=200):
                word, thing = assigned(plan, record)
                words.append(word)
                kept = assignments(plan, record)
                sets = [some for many in range(len(record) + 1)
                        for some in itertools.combinations(range(len(record)), many)]
                groups = [some for many in range(len(plan.names()) + 1)
                          for some in itertools.combinations(plan.names(), many)]
                crowded = [some for some in sets if is_crowded(plan, record, some)]
                needy = [some for some in groups if is_needy(plan, record, some)]
                self.assertEqual(kept == [], bool(crowded or needy))
                if kept:
                    self.assertEqual((word, thing), ("kept", kept[0]))
                    self.assertIs(is_assignment(plan, record, thing), True)
                else:
                    self.assertEqual(word, "crowded" if crowded else "needy")
                    self.assertIn(thing, crowded or needy)
                    self.assertFalse([some for some in crowded or needy if set(some) < set(thing)])
        for word in ("kept", "crowded", "needy"):
            self.assertGreater(words.count(word), 100)

    def test_d_first_fit(self):
        traps = 0
        for plan in small_plans(177, 60, is_free=True, least=0):
            losing = [record for record in small_records(plan, most=5, many=1500) if is_kept(plan, record)
                      and len(first_fit(plan, record)) < len(record)]
            record = trap(plan)
            self.assertEqual(record is None, wrong_pair(plan) is None)
            if record is None:
                self.assertEqual(losing, [])
            else:
                traps += 1
                self.assertIs(is_kept(plan, record), True)
                self.assertLess(len(first_fit(plan, record)), len(record))
                other = righted(plan)
                self.assertTrue(other is None or trap(other) is None)
        self.assertGreater(traps, 10)

    def test_f_orders_between_expectations(self):
        words = []
        for plan in small_plans(178, 50, is_free=False):
            for record in small_records(plan, many=200):
                kept = assignments(plan, record)
                word, thing = ordered(plan, record)
                words.append(word)
                self.assertEqual(word, "kept" if kept else "lost")
                self.assertIs(is_refusal(plan, record, reached(plan, record)), not kept)
                if kept:
                    self.assertEqual(thing, kept[0])
        self.assertGreater(words.count("kept"), 200)
        self.assertGreater(words.count("lost"), 200)

    def test_g_and_h_watchers_and_certainty(self):
        for is_free in (True, False):
            for plan in small_plans(179, 25, is_free=is_free, counts=(1, 2)):
                calls = class_calls(plan)
                kept = {tuple(record) for record in all_records(calls, total(plan)) if is_kept(plan, record)}
                begun = {record[:many] for record in kept for many in range(len(record) + 1)}
                for record in all_records(calls, min(3, total(plan))):
                    watcher = Watcher(plan)
                    for made in record:
                        watcher.see(made)
                    key = tuple(record)
                    self.assertEqual(watcher.verdict, "kept" if key in kept else "open" if key in begun else "lost")
                    if key not in begun:
                        self.assertRaises(Lost, watcher.rest)
                        self.assertRaises(Lost, certain_at, plan, record)
                        continue
                    rests = [one[len(key):] for one in kept if one[:len(key)] == key]
                    self.assertEqual(len(watcher.rest()), min(map(len, rests)))
                    self.assertIs(is_kept(plan, record + watcher.rest()), True)
                    ways = [way for rest in rests for way in assignments(plan, record + list(rest))]
                    for index in range(len(record)):
                        could = {way[index] for way in ways}
                        self.assertEqual(set(could_take(plan, record, index)), could)
                        left = answers(plan, record)[index]
                        self.assertTrue(all(any(identical(plan.expectation(name).answer, value) for value in left)
                                            for name in could))
                        count = certain_at(plan, record)[index]
                        self.assertEqual(count is None, len(left) > 1)
                        for many in range(index + 1, len(record) + 1):
                            single = len(answers(plan, record[:many])[index]) == 1
                            self.assertEqual(single, count is not None and many >= count)


class Game:
    """Whether some rule that gives each call away at once keeps every record that can be kept, by a search."""

    def __init__(self, plan):
        self.plan, self.rows, self.known = plan, plan.told, {}
        self.calls = class_calls(plan)

    def ends(self, state):
        return all(taken >= row[2] for taken, row in zip(state, self.rows))

    def raised(self, state, made):
        """The states in which one more expectation took a call."""
        return [tuple(taken + (at == index) for at, taken in enumerate(state)) for index in takers(self.plan, made)
                if state[index] < self.rows[index][3]]

    def is_safe(self, state, states):
        """Whether from a state of the rule, and all those that were possible, some rule loses nothing any more."""
        key = (state, states)
        if key not in self.known:
            good = self.ends(state) or not any(map(self.ends, states))
            for made in self.calls:
                more = tuple(sorted({new for one in states for new in self.raised(one, made)}))
                # Of a free plan whatever can be reached can be filled up.
                if good and more:
                    good = any(self.is_safe(new, more) for new in self.raised(state, made))
            self.known[key] = good
        return self.known[key]

    def has_good_rule(self):
        noughts = (0,) * len(self.rows)
        return self.is_safe(noughts, (noughts,))


class Rules(unittest.TestCase):

    def test_e_good_rules(self):
        seed = random.Random(180)
        words = []
        for plan in small_plans(181, 130, is_free=True, least=2, counts=(1, 2, 3, 3)):
            found = conflict(plan)
            words.append(found and found[0])
            self.assertEqual(Game(plan).has_good_rule(), found is None, plan.told)
            if found is None:
                for record in small_records(plan, many=300):
                    if is_kept(plan, record):
                        self.assertIn(narrowest(plan, record), assignments(plan, record))
                self.assertEqual(spared(plan), ())
                continue
            left = [one for one in plan.expectations if one.name not in spared(plan)]
            self.assertTrue(not left or conflict(Plan(*left)) is None)
            for _ in range(5):
                self.defeat(plan, seed)
        for word in ("cross", "slack", None):
            self.assertGreater(words.count(word), 8, word)

    def defeat(self, plan, seed):
        """The opponent defeats a rule that gives calls away by chance."""
        opponent, taken = Opponent(plan), {}
        while opponent.waiting() is not None:
            ready = [name for name in plan.takers(opponent.waiting())
                     if taken.get(name, 0) < plan.expectation(name).most]
            name = seed.choice(ready) if ready else None
            taken[name] = taken.get(name, 0) + 1
            opponent.given(name)
        rest, names = opponent.evidence()
        self.assertIs(is_assignment(plan, opponent.record() + rest, names), True)
        self.assertLessEqual(len(opponent.record()), total(plan))
        below = any(taken.get(one.name, 0) < one.least for one in plan.expectations)
        self.assertTrue(None in taken or not rest and below)


class Comparisons(unittest.TestCase):

    def test_i_plans_that_keep_the_same(self):
        seed = random.Random(182)
        words = []
        for plan in small_plans(183, 60, is_free=False, counts=(1, 2)):
            rows = list(plan.expectations)
            one = seed.choice(rows)
            low = seed.randint(0, 1)
            rows[rows.index(one)] = Expectation(one.name, one.pattern, least=low, most=max(1, one.most - low),
                                                after=one.after if seed.random() < 0.5 else ())
            other = Plan(*rows)
            calls = {(tuple(takers(plan, made)), tuple(takers(other, made))): made for made in ALL_CALLS}
            for first, second in ((plan, other), (other, plan)):
                word, thing = contained(first, second)
                words.append(word)
                apart = [record for record in all_records(list(calls.values()), total(first))
                         if is_kept(first, record) and not is_kept(second, record)]
                self.assertEqual(word, "apart" if apart else "within")
                self.assertIs(is_containment(first, second, thing), not apart)
                if apart:
                    self.assertEqual(len(thing), len(apart[0]))
        self.assertGreater(words.count("apart"), 20)
        self.assertGreater(words.count("within"), 20)

    def test_j_hands(self):
        seed = random.Random(184)
        words = []
        for plan in small_plans(185, 200, is_free=False, counts=(2, 3)) + small_plans(186, 40, is_free=True, least=0,
                                                                                      most=3):
            taken = [made for made in CALLS if takers(plan, made)] or CALLS
            hands = [record_by(seed, 2, taken) for _ in range(seed.choice([2, 3]))]
            links = [((0, 0), (1, 0))] if seed.random() < 0.5 and hands[0] and hands[1] else []
            kept = [is_kept(plan, merged(hands, order)) for order in orders(hands, links=links)]
            some, every = some_kept(plan, hands, links=links), all_kept(plan, hands, links=links)
            self.assertEqual((some[0], every[0]), ("kept" if any(kept) else "none", "all" if all(kept) else "not"))
            if any(kept):
                self.assertIs(is_assignment(plan, merged(hands, some[1]), some[2]), True)
            if not all(kept):
                self.assertIs(is_kept(plan, merged(hands, every[1])), False)
            self.assertIs(is_none(plan, hands, some[1], links=links), not any(kept))
            self.assertIs(is_all(plan, hands, every[1], links=links), all(kept))
            words.append("all" if all(kept) else "some" if any(kept) else "none")
        for word in ("all", "some", "none"):
            self.assertGreater(words.count(word), 3, word)


class Whole(unittest.TestCase):

    def test_k_one_log(self):
        seed = random.Random(187)
        for _ in range(40):
            root = Standin("it")
            root.will(AnyCall(), 1, Fault("busy"), again=True)
            tree = [root, root.child("a"), root.child("b"), root.child("a").child("b"), root.child("a").child("ab")]
            calls = []
            for _ in range(12):
                standin = seed.choice(tree)
                calls.append(call(standin.path, len(calls)))
                try:
                    standin.receive(len(calls) - 1)
                except Faulted:
                    pass
            self.assertEqual([made for made, _ in root.log()], calls)
            for standin in tree:
                self.assertEqual(standin.record(), [made for made in calls if made[0] == standin.path])
                inner = [one.path for one in tree if one.path.split(".")[:standin.path.count(".") + 1]
                         == standin.path.split(".")]
                self.assertEqual(standin.below(), [made for made in calls if made[0] in inner])

    def test_k_strict_stand_ins(self):
        seed = random.Random(188)
        for is_free in (True, False):
            for plan in small_plans(189, 30, is_free=is_free, counts=(1, 2)):
                calls = [call("it"), call("it", 0), call("it", 1), call("it", 2)]
                beyond = all_records(class_calls(plan), total(plan))
                root, record = Strict(plan), []
                for _ in range(3):
                    made = seed.choice(calls)
                    can_follow = any(is_kept(plan, record + [made] + rest) for rest in beyond
                                     if len(rest) + len(record) < total(plan))
                    try:
                        root.receive(*made[1])
                        record.append(made)
                        self.assertIs(can_follow, True)
                    except Unexpected:
                        self.assertIs(can_follow, False)
                    except Undecided as error:
                        self.assertIs(can_follow, True)
                        self.assertEqual(error.could, could_take(plan, record + [made], len(record)))
                    self.assertEqual(root.record(), record)

    def test_k_replacements(self):
        seed = random.Random(190)
        for _ in range(60):
            places = Places([("a", 0), ("b", 1)])
            made = [places.replaced(seed.choice("abc"), *seed.choice([(), (2,)])) for _ in range(4)]

            def work(passed):
                for one in made:
                    if one.in_force and seed.random() < 0.5:
                        one.end()
                    if not one.in_force and one in taken and seed.random() < 0.5:
                        one.begin()
                if seed.random() < 0.3:
                    passed.run(work, *[one for one in taken if not one.in_force])
                if seed.random() < 0.4:
                    raise seed.choice([ValueError, KeyboardInterrupt, BadValue])("x")
            taken = seed.sample(made, seed.randint(1, 4))
            try:
                places.run(work, *taken)
            except (ValueError, KeyboardInterrupt):
                pass
            self.assertEqual([one for one in made if one.in_force], [])
            self.assertEqual((places.names(), places.read("a"), places.read("b")), (("a", "b"), 0, 1))

    def test_k_errors_change_nothing(self):
        plan = Plan(Expectation("a", Calls("it"), most=2, answer=1), Expectation("b", AnyCall(), answer=2))
        watcher, root, strict, places = Watcher(plan), Standin(), Strict(plan), Places([("a", 1)])
        root.will(AnyCall(), 5)
        one = places.replaced("a", 2)

        def seen():
            return (watcher.verdict, watcher.record(), root.log(), strict.log(), strict.verdict, places.names(),
                    places.read("a"), one.in_force, plan.told)
        before = seen()
        for function in (lambda: watcher.see(None), lambda: root.receive([]), lambda: root.will(None, 1),
                         lambda: root.will(AnyCall(), []), lambda: root.child("A"), lambda: strict.receive([]),
                         lambda: strict.receive(path=1), lambda: strict.will(AnyCall(), 1), lambda: strict.receive(),
                         lambda: places.write("a", []), lambda: places.write("A", 1), lambda: places.remove("b"),
                         lambda: places.replaced("a", []), one.end, lambda: places.run(None, one, one), strict.done,
                         lambda: places.run(None, None), lambda: plan.expectation("zz"),
                         lambda: reached(plan, [call("it"), 1]), lambda: narrowest(plan, [None])):
            with self.assertRaises(TakerError):
                function()
            self.assertTrue(identical(seen(), before))
        self.assertEqual((root.receive(), root.receive()), (5, None))
        self.assertRaises(BadRecord, answers, plan, [1])

    def test_k_texts(self):
        seed = random.Random(191)
        texts = {}
        for value in VALUES:
            self.assertTrue(identical(read_value(value_text(value)), value))
            made = call("it", value, mode=value)
            self.assertTrue(identical(read_call(call_text(made)), made))
        for _ in range(100):
            pattern, other = pattern_by(seed, 3), call_pattern_by(seed, 3)
            self.assertIsInstance(read_pattern(pattern_text(pattern)), Pattern)
            self.assertEqual(read_pattern(pattern_text(pattern)), pattern)
            self.assertEqual(read_calls(pattern_text(other)), other)
            texts.setdefault(pattern_text(pattern), pattern)
            self.assertEqual(texts[pattern_text(pattern)], pattern)
            plan = plan_by(seed, seed.choice([1, 2, 3]), is_free=False)
            self.assertEqual(read_plan(plan_text(plan)), plan)
            self.assertRaises(BadText, read_plan, plan_text(plan)[:-1])


if __name__ == "__main__":
    unittest.main()
