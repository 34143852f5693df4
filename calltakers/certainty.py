"""Certainty: which expectations could take which calls, and from which call on the answers are certain."""

from calltakers.errors import Lost
from calltakers.plans import check_index, checked_record, start_of, taker_indexes
from calltakers.states import Walk
from calltakers.values import order_key, same


def could_take(plan, record, index):
    """The names that take a call in some assignment of a record that begins with these calls, ascending."""
    layers = _layers(plan, record)
    check_index(index, len(layers))
    return tuple([plan.expectations[taker].name for taker in _takers(layers)[index]])


def answers(plan, record):
    """For each call the list of the different answers of those that could take it, ascending."""
    return [_different(plan, takers) for takers in _takers(_layers(plan, record))]


def certain_at(plan, record):
    """For each call the least number of calls behind which only one answer is left for it; None if several are."""
    layers = _layers(plan, record)
    found = [None] * len(layers)
    for count in range(1, len(layers) + 1):
        for index, takers in enumerate(_takers(layers[:count])):
            if found[index] is None and len(_different(plan, takers)) == 1:
                found[index] = count
    return found


def _layers(plan, record):
    """For each call a dict from the states that can be reached before it to the pairs (taker, state behind it).

    Lost if no state can be reached behind the last call: from any other one the leasts that lack can be filled.
    """
    walk = Walk(plan)
    states = [start_of(plan)]
    layers = []
    for made in checked_record(record):
        takers = taker_indexes(plan, made)
        layer = {}
        for state in states:
            moves = walk.moves(state)
            layer[state] = [(index, moves[index]) for index in takers if moves[index] is not None]
        layers.append(layer)
        states = walk.led(states, takers)
    if not states:
        raise Lost("no record that begins with these calls is kept")
    return layers


def _takers(layers):
    """For each call the ascending indexes of those that take it on some way through all these layers."""
    found = []
    # The states behind a call from which some way leads through the layers behind it; None if there are none of these.
    alive = None
    for layer in reversed(layers):
        ways = {state: [way for way in layer[state] if alive is None or way[1] in alive] for state in layer}
        found.append(sorted({index for some in ways.values() for index, _ in some}))
        alive = {state: True for state, some in ways.items() if some}
    found.reverse()
    return found


def _different(plan, takers):
    """The list of the different answers of these expectations, ascending."""
    found = []
    for answer in sorted([plan.expectations[index].answer for index in takers], key=order_key):
        if not found or not same(found[-1], answer):
            found.append(answer)
    return found
