"""Assignments of records to the expectations of free plans, and what shows that there is none."""

from itertools import combinations

from calltakers.errors import NotKept
from calltakers.plans import check_free, check_index, checked_record, least_assignment, room_of, taker_indexes
from calltakers.values import is_int


def assigned(plan, record):
    """("kept", assignment), the least one, or else ("crowded", indexes), or else ("needy", names), minimal."""
    options = _options(plan, record)
    assignment = least_assignment(plan, options)
    if assignment is not None:
        return ("kept", assignment)
    crowded = _least_crowded(plan, options)
    if crowded is not None:
        return ("crowded", crowded)
    return ("needy", tuple([plan.expectations[index].name for index in _least_needy(plan, options)]))


def is_crowded(plan, record, thing):
    """Whether a thing is an ascending tuple of indexes of calls that have less room than they are."""
    options = _options(plan, record)
    if not _are_indexes(thing, len(options)):
        return False
    group = [index for index in range(len(plan.expectations)) if any([index in options[at] for at in thing])]
    return room_of(plan, group) < len(thing)


def is_needy(plan, record, thing):
    """Whether a thing is an ascending tuple of names whose leasts are more than the calls that they accept."""
    options = _options(plan, record)
    names = plan.names()
    if not isinstance(thing, tuple) or not all([name in names for name in thing]):
        return False
    group = tuple([names.index(name) for name in thing])
    return _are_indexes(group, len(names)) and _is_needy(plan, options, group)


def may_take(plan, record, index):
    """A dict from the names that take a call in some assignment of a record, ascending, to such assignments."""
    options = _options(plan, record)
    if least_assignment(plan, options) is None:
        raise NotKept("the record has no assignment")
    check_index(index, len(options))
    found = {}
    for taker in options[index]:
        assignment = least_assignment(plan, options[:index] + [(taker,)] + options[index + 1:])
        if assignment is not None:
            found[plan.expectations[taker].name] = assignment
    return found


def groups_of(count):
    """The ascending tuples of indexes below a number: the shorter ones first, those of one length in their order."""
    return [group for size in range(count + 1) for group in combinations(range(count), size)]


def _options(plan, record):
    """For each call of a record the indexes of the expectations that accept it; NotFree, then BadRecord."""
    check_free(plan)
    return [taker_indexes(plan, call) for call in checked_record(record)]


def _are_indexes(thing, count):
    """Whether a thing is an ascending tuple of different indexes below a number."""
    if not isinstance(thing, tuple) or not all([is_int(item) and 0 <= item < count for item in thing]):
        return False
    return list(thing) == sorted(set(thing))


def _least_crowded(plan, options):
    """A crowded tuple of indexes of which no part is crowded; None if no set of indexes is."""
    for group in groups_of(len(plan.expectations)):
        within = [at for at, takers in enumerate(options) if all([taker in group for taker in takers])]
        # One call more than there is room is crowded. A part of these could be so only by a smaller group.
        many = room_of(plan, group) + 1
        if len(within) >= many:
            return tuple(within[:many])
    return None


def _is_needy(plan, options, group):
    """Whether the leasts of these expectations are more than the calls that one of them accepts."""
    accepted = [takers for takers in options if any([index in takers for index in group])]
    return sum([plan.expectations[index].least for index in group]) > len(accepted)


def _least_needy(plan, options):
    """A needy tuple of indexes of expectations of which no part is needy; None if no set of them is."""
    for group in groups_of(len(plan.expectations)):
        if _is_needy(plan, options, group):
            return group
    return None
