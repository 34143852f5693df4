"""First fit: each call is taken by the first expectation that accepts it and has room."""

from calltakers.errors import NotFree
from calltakers.plans import Plan, case_call, check_free, checked_record, is_ready, raised, room_of, start_of
from calltakers.plans import taker_indexes


def first_fit(plan, record):
    """The names that take the calls of a record by first fit, up to the first call that finds no room."""
    _check_fitting(plan)
    state = start_of(plan)
    names = []
    for call in checked_record(record):
        ready = [index for index in taker_indexes(plan, call) if is_ready(plan, state, index)]
        if not ready:
            break
        state = raised(state, ready[0])
        names.append(plan.expectations[ready[0]].name)
    return tuple(names)


def wrong_pair(plan):
    """The first (name, other, both, alone) by which the order of the plan is wrong; None if it is right.

    Both is a call that both expectations accept, alone one that of the two only the first one accepts.
    """
    _check_fitting(plan)
    found = _wrong(plan)
    if found is None:
        return None
    first, other, both, alone = found
    return (plan.expectations[first].name, plan.expectations[other].name, both, alone)


def trap(plan):
    """A record that is kept, but of which first fit does not take all calls; None if the order is right."""
    _check_fitting(plan)
    found = _wrong(plan)
    if found is None:
        return None
    first, _, both, alone = found
    # The calls that both accept fill all their takers up to the first one of the pair, but not the other one. Then
    # the calls that the first one accepts alone fill their takers that are left, and the last of them finds no room.
    # It would find some if the other one had taken a call that both accept.
    filled = [index for index in taker_indexes(plan, both) if index <= first]
    left = [index for index in taker_indexes(plan, alone) if index not in filled]
    return [both] * room_of(plan, filled) + [alone] * (room_of(plan, left) + 1)


def righted(plan):
    """A plan of the same expectations in a right order; None if there is none."""
    _check_fitting(plan)
    waiting = list(range(len(plan.expectations)))
    ordered = []
    while waiting:
        fitting = [index for index in waiting if all([_is_right(plan, index, other) for other in waiting])]
        if not fitting:
            return None
        ordered.append(plan.expectations[fitting[0]])
        waiting.remove(fitting[0])
    return Plan(*ordered)


def _check_fitting(plan):
    """NotFree for a plan with an order or a least, for which first fit is not made."""
    check_free(plan)
    if any([expectation.least > 0 for expectation in plan.expectations]):
        raise NotFree("first fit is for plans without leasts")


def _is_right(plan, first, other):
    """Whether one expectation may stand before another one: they do not meet, or it is contained in the other."""
    return case_call(plan, [first, other], []) is None or case_call(plan, [first], [other]) is None


def _wrong(plan):
    """The first two indexes that stand wrong, a call that both accept, and one that only the first one accepts."""
    count = len(plan.expectations)
    for first in range(count):
        for other in range(first + 1, count):
            if not _is_right(plan, first, other):
                return (first, other, case_call(plan, [first, other], []), case_call(plan, [first], [other]))
    return None
