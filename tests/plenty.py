"""Many patterns, made by a seed, and values enough to tell them apart."""

import itertools

from calltakers.patterns import Anything, AnyCall, Begins, Between, Both, Calls, Either, Exactly, Items, Kind, Not
from calltakers.values import call
from samples import tuples_over

FLAT = [None, False, True] + list(range(-3, 7)) + ["", "a", "b", "c", "aa", "ab", "ac", "ba", "bb", "aaa", "aab", "abc"]
SHORT = [None, False, True, -2, 0, 1, 2, 5, "", "a", "ab", "c"]
INNER = [None, True, 1, 3, "a", "c", (), (None,), (True,), (1,), ("a",), ("c",), (0, 1), (None, None, None)]
UNIVERSE = (FLAT + [()] + [(value,) for value in FLAT] + list(itertools.product(SHORT, SHORT)) + tuples_over(INNER)
            + list(itertools.product([None, True, 1, 4, "a", (1,)], repeat=3)) + [(None,) * 4, (1, 1, 1, 1, 1)])
TEXTS = ["", "a", "b", "aa", "ab", "abc"]
KINDS = ["none", "bool", "int", "text", "tuple"]
EXACT = [None, False, True, 0, 1, 2, "", "a", "ab", (), (1,), (True,), (1, "a"), ((1,), 2), ((True,),), (None,) * 3]


def pattern_by(random, depth):
    """A pattern of values, joined at most so deep."""
    if depth and random.random() < 0.7:
        joined = random.choice([Both, Either, Items, Not])
        many = 1 if joined is Not else random.choice([0, 1, 1, 2, 2, 2, 3])
        return joined(*[pattern_by(random, depth - 1) for _ in range(many)])
    low, high = random.randint(-1, 4), random.randint(-1, 4)
    return random.choice([
        Anything(), Exactly(random.choice(EXACT)), Exactly(random.choice(EXACT)), Kind(random.choice(KINDS)),
        Begins(random.choice(TEXTS)), Between(low, high), Between(min(low, high), max(low, high)), Between(None, high),
        Between(low, None), Items(Between(low, None)), Not(Exactly(random.choice(EXACT)))])


def call_pattern_by(random, depth):
    """A pattern of calls of a few shapes."""
    if random.random() < 0.1:
        return AnyCall()
    path = random.choice([None, "it", "it", "db.open"])
    parts = [pattern_by(random, depth) for _ in range(random.choice([0, 1, 1, 2]))]
    named = {name: pattern_by(random, depth) for name in random.choice([[], [], ["a"], ["mode"], ["a", "mode"]])}
    return Calls(path, *parts, **named)


FEW = [None, False, True, -1, 0, 1, 2, 3, 5, "", "a", "ab", "c", (), (1,), (True,), (1, "a"), ((1,), 2)]
MANY_CALLS = [call(path) for path in ("it", "db.open", "zz.zz")]
for some in FEW:
    for path in ("it", "db.open", "zz"):
        MANY_CALLS.extend([call(path, some), call(path, a=some), call(path, mode=some)])
    for more in FEW:
        for path in ("it", "zz"):
            MANY_CALLS.extend([call(path, some, more), call(path, some, a=more), call(path, some, mode=more),
                               call(path, a=some, mode=more)])
MANY_CALLS.extend([call("it", 1, 1, a=1), call("it", 1, 1, a=1, mode=1), call("it", b=1), call("it", 1, 1, 1)])
