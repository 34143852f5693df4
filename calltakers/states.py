"""States of a plan: how many calls each expectation has taken, and the steps between them."""

from calltakers.errors import NoState
from calltakers.plans import checked_record, has_leasts, is_ready, least_assignment, raised, start_of, states_behind
from calltakers.plans import taker_indexes
from calltakers.values import checked_call, is_int


class Walk:
    """The steps of a plan, for searches that come to the same states again and again: each is looked at once."""

    def __init__(self, plan):
        self._plan = plan
        self._moves = {}

    def moves(self, state):
        """For each expectation the state in which it has taken one call more; None where it may not take one."""
        if state not in self._moves:
            places = range(len(state))
            ready = [is_ready(self._plan, state, index) for index in places]
            self._moves[state] = tuple([raised(state, index) if ready[index] else None for index in places])
        return self._moves[state]

    def led(self, states, takers):
        """The ascending list of the states to which steps lead from these, by a call that these expectations accept."""
        rows = [self.moves(state) for state in states]
        return sorted({row[index] for row in rows for index in takers if row[index] is not None})


def start(plan):
    """The state of noughts."""
    return start_of(plan)


def steps(plan, state, call):
    """The ascending list of the states behind a call."""
    _check_state(plan, state)
    return states_behind(plan, [state], taker_indexes(plan, checked_call(call)))


def ends(plan, state):
    """Whether in a state all expectations have their least."""
    _check_state(plan, state)
    return has_leasts(plan, state)


def reached(plan, record):
    """The ascending lists of the states that can be reached, before the first call of a record and behind each one."""
    found = [[start_of(plan)]]
    for call in checked_record(record):
        found.append(states_behind(plan, found[-1], taker_indexes(plan, call)))
    return found


def ordered(plan, record):
    """("kept", the least assignment), or ("lost", index) with the first call behind which no state is left.

    The index is the number of the calls if some states are left but none of them ends.
    """
    calls = checked_record(record)
    assignment = least_assignment(plan, [taker_indexes(plan, call) for call in calls])
    if assignment is not None:
        return ("kept", assignment)
    left = [states for states in reached(plan, calls) if states]
    # The first list stands before the first call, so as many lists are left as calls lead to states, and one.
    return ("lost", len(left) - 1)


def is_refusal(plan, record, thing):
    """Whether a thing is a list of lists of states that shows that a record is not kept."""
    calls = checked_record(record)
    if not _are_lists_of_states(plan, thing) or len(thing) != len(calls) + 1:
        return False
    if start_of(plan) not in thing[0] or any([has_leasts(plan, state) for state in thing[-1]]):
        return False
    for index, call in enumerate(calls):
        behind = {state: True for state in thing[index + 1]}
        if not all([state in behind for state in states_behind(plan, thing[index], taker_indexes(plan, call))]):
            return False
    return True


def is_state(plan, thing):
    """Whether a thing is a state of a plan."""
    if not isinstance(thing, tuple) or len(thing) != len(plan.expectations):
        return False
    return all([is_int(taken) and 0 <= taken <= one.most for taken, one in zip(thing, plan.expectations)])


def _check_state(plan, thing):
    """NoState if a thing is no state of a plan."""
    if not is_state(plan, thing):
        raise NoState("this is no state of the plan")


def _are_lists_of_states(plan, thing):
    """Whether a thing is a list of lists of states."""
    if not isinstance(thing, (list, tuple)) or not all([isinstance(states, (list, tuple)) for states in thing]):
        return False
    return all([is_state(plan, state) for states in thing for state in states])
