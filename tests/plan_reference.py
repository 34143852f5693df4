"""A second, plain account of plans by what they tell, which the tests compare the package with; and small plans."""

import itertools

from calltakers.patterns import Anything, AnyCall, Between, Calls, Exactly, Kind, Not
from calltakers.plans import Expectation, Plan
from calltakers.values import call
from reference import told_accepts_call

CALLS = [call("it", at) for at in range(5)] + [call("it"), call("other", 1)]
PATTERNS = [Calls("it", Between(0, 1)), Calls("it", Between(0, 2)), Calls("it", Between(1, 3)),
            Calls("it", Between(2, 4)), Calls("it", Exactly(0)), Calls("it", Exactly(2)), Calls("it", Exactly(4)),
            Calls("it", Kind("int")), Calls("it", Not(Exactly(2))), Calls(None, Exactly(1)), Calls("it"),
            Calls("other", Anything()), AnyCall()]
# One call at least of each class of these patterns.
ALL_CALLS = CALLS + [call("it", 7), call("it", "x"), call("other"), call("other", 2), call("zz", 1), call("zz")]
NAMES = ["a", "zz", "b", "it", "c", "none"]


def plan_by(random, count, *, is_free=True, least=2, most=3, patterns=PATTERNS):
    """A plan of so many expectations, with numbers up to these."""
    made = []
    for at in range(count):
        low = random.randint(0, least)
        after = [] if is_free else [name for name in NAMES[:at] if random.random() < 0.4]
        random.shuffle(after)
        made.append(Expectation(NAMES[at], random.choice(patterns), least=low, most=random.randint(max(low, 1), most),
                                after=after, answer=random.choice([None, 1, True, "x"])))
    return Plan(*made)


def takers(plan, made):
    """The indexes of the expectations that accept a call."""
    return [index for index, row in enumerate(plan.told) if told_accepts_call(row[1], made)]


def behind(plan):
    """The pairs of indexes of which the first one comes behind the second one."""
    names = [row[0] for row in plan.told]
    pairs = {(at, names.index(name)) for at, row in enumerate(plan.told) for name in row[4]}
    while True:
        more = pairs | {(one, last) for one, other in pairs for same, last in pairs if other == same}
        if more == pairs:
            return pairs
        pairs = more


def holds(plan, record, indexes):
    """Whether the expectations at these indexes take the calls of a record so that all is as [11] says."""
    for made, index in zip(record, indexes):
        if index not in takers(plan, made):
            return False
    for index, row in enumerate(plan.told):
        if not row[2] <= list(indexes).count(index) <= row[3]:
            return False
    for later, earlier in behind(plan):
        places = [at for at, index in enumerate(indexes) if index == later]
        if any(index == earlier and places and at > min(places) for at, index in enumerate(indexes)):
            return False
    return True


def assignments(plan, record):
    """All assignments of a record, as names, ascending by the indexes of the expectations."""
    names = [row[0] for row in plan.told]
    options = [takers(plan, made) for made in record]
    return [tuple(names[index] for index in indexes) for indexes in itertools.product(*options)
            if holds(plan, record, indexes)]


def is_kept(plan, record):
    return assignments(plan, record) != []


def all_records(calls, most):
    """All records of at most so many of these calls."""
    return [list(some) for many in range(most + 1) for some in itertools.product(calls, repeat=many)]


def meet(plan, one, other):
    """Whether the patterns of two expectations, of PATTERNS, accept a call together."""
    return any({one, other} <= set(takers(plan, made)) for made in ALL_CALLS)


def within(plan, one, other):
    """Whether the pattern of one of two expectations, of PATTERNS, is contained in that of the other."""
    return all(other in takers(plan, made) for made in ALL_CALLS if one in takers(plan, made))


def record_by(random, most, calls=CALLS):
    return [random.choice(calls) for _ in range(random.randint(0, most))]


def layers(plan, record):
    """The lists of the states that can be reached, before the first call and behind each one, by what [15] says."""
    rows, pairs = plan.told, behind(plan)
    found = [{(0,) * len(rows)}]
    for made in record:
        more = set()
        for state in found[-1]:
            for index in takers(plan, made):
                ready = state[index] < rows[index][3]
                ready = ready and all(state[other] >= rows[other][2] for one, other in pairs if one == index)
                ready = ready and all(state[one] == 0 for one, other in pairs if other == index)
                if ready:
                    more.add(tuple(taken + (at == index) for at, taken in enumerate(state)))
        found.append(more)
    return [sorted(states) for states in found]


def ending(plan, states):
    """Those of the states in which all leasts are reached."""
    return [state for state in states if all(taken >= row[2] for taken, row in zip(state, plan.told))]
