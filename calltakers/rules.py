"""Rules that give each call away at once: when there is a good one, and what defeats every rule otherwise."""

from calltakers.assigning import groups_of
from calltakers.errors import BadMove, Conflicted, NoConflict, NotWon
from calltakers.plans import case_call, check_free, checked_record, has_leasts, is_ready, lack, least_assignment, raised
from calltakers.plans import shortest_rest, start_of, states_behind, taker_indexes


def conflict(plan):
    """The first conflict, ("cross", i, j, (s, t, u)) or ("slack", i, j, (s, u)); None if there is none."""
    check_free(plan)
    found = _conflicts(plan)
    if not found:
        return None
    word, first, other, calls = found[0]
    return (word, plan.expectations[first].name, plan.expectations[other].name, calls)


def narrowest(plan, record):
    """The names that the narrowest rule gives to the calls of a record, up to the first call that finds no room."""
    check_free(plan)
    calls = checked_record(record)
    if _conflicts(plan):
        raise Conflicted("of a plan with a conflict the narrowest rule is not made")
    state = start_of(plan)
    names = []
    for call in calls:
        index = narrowest_index(plan, state, call)
        if index is None:
            break
        state = raised(state, index)
        names.append(plan.expectations[index].name)
    return tuple(names)


def narrowest_index(plan, state, call):
    """The index to which the narrowest rule gives a call in a state; None if the call finds no room."""
    ready = [index for index in taker_indexes(plan, call) if is_ready(plan, state, index)]
    # Without a conflict these are several only if their patterns are equal.
    narrow = [index for index in ready if all([_is_within(plan, index, other) for other in ready])]
    for index in narrow:
        if state[index] < plan.expectations[index].least:
            return index
    return narrow[0] if narrow else None


def spared(plan):
    """The names of the fewest expectations without which no conflict remains, of several the first by indexes."""
    check_free(plan)
    pairs = [found[1:3] for found in _conflicts(plan)]
    groups = groups_of(len(plan.expectations))
    sparing = [group for group in groups if all([first in group or other in group for first, other in pairs])]
    return tuple([plan.expectations[index].name for index in sparing[0]])


class Opponent:
    """Plays calls, each in answer to whom those before were given, such that no rule is good."""

    # It plays a call that both of a conflict accept until one of the two takes it, and then what of the two only this
    # one accepts, until that finds no room: it would find some if the other one had taken the call of both.
    # In a slack the first one accepts nothing alone. But if it takes a call of both behind its least, the leasts lack
    # more than if the other one had taken it. Then what they would lack is played, and some least is not reached.

    def __init__(self, plan):
        check_free(plan)
        found = _conflicts(plan)
        if not found:
            raise NoConflict("of a plan without a conflict there is a good rule")
        word, first, other, calls = found[0]
        self._plan = plan
        self._first = first
        self._other = other
        # What only the other one accepts, and what only the first one accepts, which a slack has not.
        self._for_other = calls[-1]
        self._for_first = calls[1] if word == "cross" else None
        self._calls = []
        self._takings = []
        # The state to which the rule has led, and all those to which it could have led.
        self._state = start_of(plan)
        self._states = [self._state]
        self._is_filling = False
        self._waiting = calls[0]

    def waiting(self):
        """The call that waits to be given away; None if the opponent has won."""
        return self._waiting

    def given(self, name):
        """The call that waits is given to the expectation of this name, or to none."""
        if self._waiting is None or name is not None and not self._is_taker(name):
            raise BadMove(name)
        self._calls.append(self._waiting)
        self._takings.append(name)
        self._states = states_behind(self._plan, self._states, taker_indexes(self._plan, self._waiting))
        if name is None:
            self._waiting = None
        else:
            self._go_on(self._plan.names().index(name))

    def record(self):
        """The calls so far that were given away or to none."""
        return list(self._calls)

    def takings(self):
        """The names to which the calls so far were given, or None."""
        return list(self._takings)

    def evidence(self):
        """(rest, assignment): calls that can follow the record, and an assignment of both together."""
        if self._waiting is not None:
            raise NotWon("a call still waits")
        rest = shortest_rest(self._plan, self._states)
        options = [taker_indexes(self._plan, call) for call in self._calls + rest]
        return (rest, least_assignment(self._plan, options))

    def _is_taker(self, name):
        """Whether a thing is the name of an expectation that accepts the call that waits and has room."""
        names = self._plan.names()
        if name not in names:
            return False
        index = names.index(name)
        return index in taker_indexes(self._plan, self._waiting) and is_ready(self._plan, self._state, index)

    def _go_on(self, index):
        """The next call comes, after one that was given to the expectation at this index."""
        had_least = self._state[index] >= self._plan.expectations[index].least
        self._state = raised(self._state, index)
        self._is_filling = self._is_filling or self._for_first is None and index == self._first and had_least
        rest = shortest_rest(self._plan, self._states)
        if not rest and not has_leasts(self._plan, self._state):
            self._waiting = None
        elif self._is_filling:
            self._waiting = rest[0]
        elif index == self._other:
            self._waiting = self._for_other
        elif index == self._first and self._for_first is not None:
            self._waiting = self._for_first


def _conflicts(plan):
    """All conflicts, crosses before slacks, by the indexes of the two: (word, first, other, calls)."""
    places = range(len(plan.expectations))
    crosses = [_cross(plan, first, other) for first in places for other in places if first < other]
    slacks = [_slack(plan, first, other) for first in places for other in places if first != other]
    return [found for found in crosses + slacks if found is not None]


def _cross(plan, first, other):
    """The conflict of two that accept a call together, and each one another call without the other; or None."""
    both = case_call(plan, [first, other], [])
    alone = case_call(plan, [first], [other])
    others = case_call(plan, [other], [first])
    if both is None or alone is None or others is None:
        return None
    return ("cross", first, other, (both, alone, others))


def _slack(plan, first, other):
    """The conflict of one with slack within another one that has a least and accepts more; or None."""
    others = case_call(plan, [other], [first])
    if others is None or not _is_within(plan, first, other) or not plan.expectations[first].has_slack:
        return None
    if plan.expectations[other].least == 0:
        return None
    return ("slack", first, other, (case_call(plan, [first, other], []), others))


def _is_within(plan, first, other):
    """Whether the pattern of one expectation is contained in that of another one."""
    return case_call(plan, [first], [other]) is None
