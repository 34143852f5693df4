"""Calls of several hands whose order is only partly known: whether all, some or none of the orders are kept."""

from calltakers.errors import BadHands, NoOrder
from calltakers.plans import has_leasts, least_assignment, raised, start_of, taker_indexes
from calltakers.states import Walk, is_state
from calltakers.values import is_call, is_int

MOST_HANDS = 3


class Deal:
    """Hands of calls with links between them, and the cuts between the calls that have come and those to come."""

    def __init__(self, hands, links):
        self.calls = _checked_calls(hands)
        self.last = tuple([len(calls) for calls in self.calls])
        self.first = (0,) * len(self.last)
        if not isinstance(links, (list, tuple)) or not all([_is_link(self.last, link) for link in links]):
            raise BadHands("links are pairs of different places of calls")
        self._links = tuple(links)
        self.cuts = [cut for cut in _cuts_of(self.last) if self._holds_links(cut)]
        among = {cut: True for cut in self.cuts}
        self._coming = {}
        for cut in self.cuts:
            ways = [(hand, raised(cut, hand)) for hand in range(len(cut))]
            self._coming[cut] = [(hand, behind) for hand, behind in ways if behind in among]
        if not self._has_order():
            raise BadHands("no order obeys these links")

    def coming(self, cut):
        """The ascending list of the pairs (hand, cut behind) for the calls that may come next."""
        return list(self._coming[cut])

    def _holds_links(self, cut):
        """Whether with each call that has come all those have come that links put before it."""
        for (hand, index), (later_hand, later_index) in self._links:
            if cut[later_hand] > later_index and cut[hand] <= index:
                return False
        return True

    def _has_order(self):
        """Whether all calls can come one by one."""
        # Whatever has come, if all calls can come in some order, then one that comes first of those left can come next.
        cut = self.first
        while self._coming[cut]:
            _, cut = self._coming[cut][0]
        return cut == self.last


class Table:
    """A deal with a plan: the steps of the plan by the calls of the hands."""

    def __init__(self, plan, hands, links):
        self.plan = plan
        self.deal = Deal(hands, links)
        self._walk = Walk(plan)
        self._accepting = [[taker_indexes(plan, made) for made in calls] for calls in self.deal.calls]

    def next_states(self, cut, states, hand):
        """The ascending list of the states to which the next call of a hand leads from these."""
        return self._walk.led(states, self._accepting[hand][cut[hand]])

    def has_end(self, states):
        """Whether one of these states ends."""
        return any([has_leasts(self.plan, state) for state in states])


def merged(hands, order):
    """The record of the calls of hands in an order."""
    calls = _checked_calls(hands)
    if not isinstance(order, tuple) or not all([is_int(hand) and 0 <= hand < len(calls) for hand in order]):
        raise NoOrder("an order is a tuple of indexes of hands")
    if [order.count(hand) for hand in range(len(calls))] != [len(hand) for hand in calls]:
        raise NoOrder("an order has each hand as often as it has calls")
    return _calls_in(calls, order)


def orders(hands, *, links=()):
    """A generator of all orders, ascending."""
    deal = Deal(hands, links)
    begun = [(deal.first, ())]
    while begun:
        cut, order = begun.pop()
        if cut == deal.last:
            yield order
        for hand, behind in reversed(deal.coming(cut)):
            begun.append((behind, order + (hand,)))


def some_kept(plan, hands, *, links=()):
    """("kept", order, assignment) with the least order whose record is kept, or ("none", cuts) with their states."""
    table = Table(plan, hands, links)
    deal = table.deal
    states = _all_states(table)
    if not table.has_end(states[deal.last]):
        return ("none", [(cut, states[cut]) for cut in deal.cuts])
    order = _least_order(table, _good_states(table, states))
    options = [taker_indexes(plan, made) for made in _calls_in(deal.calls, order)]
    return ("kept", order, least_assignment(plan, options))


def is_none(plan, hands, thing, *, links=()):
    """Whether a thing is a list of the cuts with states that shows that no order is kept."""
    table = Table(plan, hands, links)
    deal = table.deal
    if not _are_pairs(table, thing):
        return False
    found = {cut: {state: True for state in states} for cut, states in thing}
    if len(thing) != len(deal.cuts) or len(found) != len(deal.cuts):
        return False
    if start_of(plan) not in found[deal.first] or table.has_end(found[deal.last]):
        return False
    for cut in deal.cuts:
        for hand, behind in deal.coming(cut):
            if not all([state in found[behind] for state in table.next_states(cut, found[cut], hand)]):
                return False
    return True


def all_kept(plan, hands, *, links=()):
    """("all", cuts) with all states to which some order leads, or ("not", order) with the least that is not kept."""
    table = Table(plan, hands, links)
    first = (table.deal.first, (start_of(plan),))
    seen = {first: True}
    order = _least_unkept(table, first, seen)
    if order is not None:
        return ("not", order)
    return ("all", [(cut, list(states)) for cut, states in sorted(seen)])


def is_all(plan, hands, thing, *, links=()):
    """Whether a thing is a list of cuts with states that shows that all orders are kept."""
    table = Table(plan, hands, links)
    deal = table.deal
    if not _are_pairs(table, thing):
        return False
    pairs = {(cut, tuple(sorted(set(states)))): True for cut, states in thing}
    if (deal.first, (start_of(plan),)) not in pairs:
        return False
    for cut, states in pairs:
        if cut == deal.last and not table.has_end(states):
            return False
        for hand, behind in deal.coming(cut):
            if (behind, tuple(table.next_states(cut, states, hand))) not in pairs:
                return False
    return True


def _checked_calls(thing):
    """The hands as lists of calls; BadHands if a thing is no hands."""
    if not isinstance(thing, (list, tuple)) or not 1 <= len(thing) <= MOST_HANDS:
        raise BadHands("hands are a list of one to three lists")
    for hand in thing:
        if not isinstance(hand, (list, tuple)) or not all([is_call(item) for item in hand]):
            raise BadHands("a hand is a list of calls")
    return [list(hand) for hand in thing]


def _is_link(sizes, thing):
    """Whether a thing is a pair of different places of hands of these sizes: no call comes before itself."""
    if not isinstance(thing, tuple) or len(thing) != 2 or not all([_is_place(sizes, place) for place in thing]):
        return False
    return thing[0] != thing[1]


def _is_place(sizes, thing):
    """Whether a thing is the place (hand, index) of a call, in hands of these sizes."""
    if not isinstance(thing, tuple) or len(thing) != 2 or not all([is_int(item) for item in thing]):
        return False
    hand, index = thing
    return 0 <= hand < len(sizes) and 0 <= index < sizes[hand]


def _cuts_of(sizes):
    """The ascending list of the tuples of a number from 0 to each of these sizes."""
    found = [()]
    for size in sizes:
        found = [cut + (many,) for cut in found for many in range(size + 1)]
    return found


def _calls_in(calls, order):
    """The calls of hands in an order."""
    cut = (0,) * len(calls)
    record = []
    for hand in order:
        record.append(calls[hand][cut[hand]])
        cut = raised(cut, hand)
    return record


def _all_states(table):
    """A dict from each cut to the ascending list of the states that can be reached there."""
    found = {cut: {} for cut in table.deal.cuts}
    found[table.deal.first][start_of(table.plan)] = True
    # Ascending, so that each cut comes behind all those that lead to it.
    for cut in table.deal.cuts:
        for hand, behind in table.deal.coming(cut):
            states = table.next_states(cut, found[cut], hand)
            for state in states:
                found[behind][state] = True
    return {cut: sorted(found[cut]) for cut in found}


def _good_states(table, states):
    """A dict from each cut to a dict of those of its states from which some calls lead to one that ends."""
    last = table.deal.last
    good = {last: {state: True for state in states[last] if has_leasts(table.plan, state)}}
    for cut in reversed(table.deal.cuts):
        ways = [(hand, good[behind]) for hand, behind in table.deal.coming(cut)]
        if ways:
            good[cut] = {state: True for state in states[cut] if _leads(table, cut, state, ways)}
    return good


def _leads(table, cut, state, ways):
    """Whether the next call of some hand leads from a state to one of those beside the hand."""
    return any([new in goal for hand, goal in ways for new in table.next_states(cut, [state], hand)])


def _least_order(table, good):
    """The least order that leads to a state that ends."""
    cut = table.deal.first
    states = [start_of(table.plan)]
    order = ()
    while cut != table.deal.last:
        ways = [(hand, behind, table.next_states(cut, states, hand)) for hand, behind in table.deal.coming(cut)]
        leading = [(hand, behind, led) for hand, behind, led in ways if any([state in good[behind] for state in led])]
        hand, cut, led = leading[0]
        states = [state for state in led if state in good[cut]]
        order = order + (hand,)
    return order


def _least_unkept(table, pair, seen):
    """The hands of the least order behind a pair (cut, states) that leads to no state that ends; None if all do.

    Pairs that are seen need not be looked at again; those that are met are seen then.
    """
    cut, states = pair
    if cut == table.deal.last:
        return None if table.has_end(states) else ()
    for hand, behind in table.deal.coming(cut):
        new = (behind, tuple(table.next_states(cut, states, hand)))
        if new not in seen:
            seen[new] = True
            rest = _least_unkept(table, new, seen)
            if rest is not None:
                return (hand,) + rest
    return None


def _are_pairs(table, thing):
    """Whether a thing is a list of pairs of a cut and a list of states of the plan."""
    if not isinstance(thing, (list, tuple)) or not all([isinstance(pair, tuple) and len(pair) == 2 for pair in thing]):
        return False
    for cut, states in thing:
        if not isinstance(cut, tuple) or not all([is_int(many) for many in cut]) or cut not in table.deal.cuts:
            return False
        if not isinstance(states, (list, tuple)) or not all([is_state(table.plan, state) for state in states]):
            return False
    return True
