"""Whether one plan keeps every record that another plan keeps, and what shows it."""

from heapq import heappop, heappush

from calltakers.cases import classes
from calltakers.plans import Expectation, Plan, has_leasts, start_of
from calltakers.states import Walk, is_state
from calltakers.values import is_int


class Pursuit:
    """The pairs of a state of a plan and all the states of another plan to which the same calls lead.

    All states of the other plan together stand in a pair as a number: they are many, and the same ones come often.
    """

    def __init__(self, plan, other, steps):
        self._plan = plan
        self._other = other
        # For each class of calls the takers of the plan, those of the other plan, and a call.
        self._steps = [step for step in steps if step[0]]
        self._walk = Walk(plan)
        self._other_walk = Walk(other)
        self._numbers = {}
        self._groups = []
        self._ending = []
        self._next_numbers = {}
        self.first = (start_of(plan), self.number((start_of(other),)))

    def number(self, states):
        """The number of an ascending tuple of states of the other plan."""
        if states not in self._numbers:
            self._numbers[states] = len(self._groups)
            self._groups.append(states)
            self._ending.append(any([has_leasts(self._other, state) for state in states]))
        return self._numbers[states]

    def with_states(self, pair):
        """The pair with the states instead of their number."""
        state, number = pair
        return (state, self._groups[number])

    def is_good(self, pair):
        """Whether, where the state of the plan ends, one of the other plan ends."""
        state, number = pair
        return self._ending[number] or not has_leasts(self._plan, state)

    def following(self, pair):
        """The list of (pair, call) for all steps from a pair."""
        state, number = pair
        moves = self._walk.moves(state)
        found = []
        for takers, others, made in self._steps:
            states = [moves[index] for index in takers if moves[index] is not None]
            if states:
                next_number = self._next_number(number, others)
                found.extend([((new, next_number), made) for new in states])
        return found

    def _next_number(self, number, others):
        """The number of the states behind those of a number, by a call that these of the other plan accept."""
        key = (number, others)
        if key not in self._next_numbers:
            self._next_numbers[key] = self.number(tuple(self._other_walk.led(self._groups[number], others)))
        return self._next_numbers[key]


def contained(plan, other):
    """("within", pairs) if another plan keeps all that a plan keeps, or ("apart", record) with a shortest record."""
    pursuit = Pursuit(plan, other, _common_steps(plan, other))
    ways = _ways(pursuit)
    last = list(ways)[-1]
    if not pursuit.is_good(last):
        return ("apart", _calls_to(ways, last))
    return ("within", [pursuit.with_states(pair) for pair in ways])


def is_containment(plan, other, thing):
    """Whether a thing is a list of pairs that shows that another plan keeps all that a plan keeps."""
    if not _are_pairs(plan, other, thing):
        return False
    pursuit = Pursuit(plan, other, _common_steps(plan, other))
    pairs = {(state, pursuit.number(states)): True for state, states in thing}
    if pursuit.first not in pairs or not all([pursuit.is_good(pair) for pair in pairs]):
        return False
    for pair in pairs:
        if not all([new in pairs for new, _ in pursuit.following(pair)]):
            return False
    return True


def needless(plan):
    """The pairs (name, other) such that the plan keeps the same records if name does not come after other."""
    return [(one.name, other) for one in plan.expectations for other in plan.names()
            if other in one.after and _is_needless(plan, one.name, other)]


def _common_steps(plan, other):
    """For each class of the patterns of both plans the takers of each one, and a call."""
    patterns = [one.pattern for one in plan.expectations + other.expectations]
    size = len(plan.expectations)
    return [(_marked(marks[:size]), _marked(marks[size:]), made) for marks, made in classes(patterns)]


def _marked(marks):
    """The places of the marks that are True."""
    return tuple([index for index, mark in enumerate(marks) if mark])


def _ways(pursuit):
    """A dict from the pairs that can be reached to (pair before, call); the last one is the first that is not good.

    Pairs behind fewer calls come first. All are there if all are good.
    """
    ways = {pursuit.first: None}
    queue = [pursuit.first]
    at = 0
    while at < len(queue):
        pair = queue[at]
        if not pursuit.is_good(pair):
            return {seen: ways[seen] for seen in queue[:at + 1]}
        for new, made in pursuit.following(pair):
            if new not in ways:
                ways[new] = (pair, made)
                queue.append(new)
        at += 1
    return ways


def _calls_to(ways, pair):
    """The calls that lead to a pair."""
    record = []
    while ways[pair] is not None:
        pair, made = ways[pair]
        record.append(made)
    return record[::-1]


def _are_pairs(plan, other, thing):
    """Whether a thing is a list of pairs of a state of a plan and an ascending tuple of states of another plan."""
    if not isinstance(thing, (list, tuple)) or not all([isinstance(pair, tuple) and len(pair) == 2 for pair in thing]):
        return False
    if not all([is_state(plan, state) and _are_rows(states) for state, states in thing]):
        return False
    # The same states come often: they are looked at once.
    groups = {states: True for _, states in thing}
    return all([_are_ascending_states(other, states) for states in groups])


def _are_rows(thing):
    """Whether a thing is a tuple of tuples of integers."""
    if not isinstance(thing, tuple) or not all([isinstance(row, tuple) for row in thing]):
        return False
    return all([is_int(number) for row in thing for number in row])


def _are_ascending_states(plan, rows):
    """Whether tuples of integers are states of a plan, ascending."""
    return all([is_state(plan, row) for row in rows]) and list(rows) == sorted(set(rows))


def _is_needless(plan, name, other):
    """Whether a plan keeps the same records if an expectation does not come after another one."""
    less = _without(plan, name, other)
    # An order that follows from others needs no search.
    if less.before == plan.before:
        return True
    pursuit = Pursuit(less, plan, [(takers, takers, made) for takers, made in plan.cases()])
    # The fewer states of the plan are left, the nearer is a record that it does not keep. A number beside each pair
    # tells apart those with as many states.
    seen = {pursuit.first: True}
    queue = [(1, 0, pursuit.first)]
    while queue:
        _, _, pair = heappop(queue)
        if not pursuit.is_good(pair):
            return False
        for new, _ in pursuit.following(pair):
            if new not in seen:
                heappush(queue, (len(pursuit.with_states(new)[1]), len(seen), new))
                seen[new] = True
    return True


def _without(plan, name, other):
    """The plan in which one expectation does not come after another one."""
    rows = []
    for one in plan.expectations:
        after = [earlier for earlier in one.after if one.name != name or earlier != other]
        rows.append(Expectation(one.name, one.pattern, least=one.least, most=one.most, after=after, answer=one.answer))
    return Plan(*rows)
