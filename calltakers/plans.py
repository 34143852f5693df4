"""Expectations, plans of them, the records of calls that plans keep, and the states that records lead to."""

from calltakers.cases import classes, example
from calltakers.errors import BadExpectation, BadPattern, BadPlan, BadRecord, NoIndex, NoName, NotFree
from calltakers.patterns import Calls, is_call_pattern
from calltakers.values import is_call, is_int, is_name, is_value, same


class Expectation:
    """Which calls are to come, how many, behind which other expectations, and what they are answered."""

    def __init__(self, name, pattern, *, least=1, most=1, after=(), answer=None):
        if not is_name(name):
            raise BadExpectation("an expectation has a name")
        if not is_call_pattern(pattern) or example(pattern) is None:
            raise BadExpectation("an expectation has a pattern of calls that accepts some call")
        if not is_int(least) or not is_int(most) or not 0 <= least <= most or most < 1:
            raise BadExpectation("an expectation takes from least to most calls, and most is at least 1")
        if not _are_names(after):
            raise BadExpectation("an expectation comes after a list of different names")
        if not is_value(answer):
            raise BadExpectation("an expectation answers with a value")
        self.name = name
        self.pattern = pattern
        self.least = least
        self.most = most
        self.after = tuple(after)
        self.answer = answer

    @property
    def has_slack(self):
        """Whether it can take more calls than it has to."""
        return self.least < self.most


class Plan:
    """One or more expectations, each after earlier ones only."""

    MOST = 6

    def __init__(self, *expectations):
        if not expectations:
            raise BadPlan(0)
        names = []
        for index, expectation in enumerate(expectations):
            if index == Plan.MOST or not _fits(expectation, names):
                raise BadPlan(index)
            names.append(expectation.name)
        self.expectations = expectations
        # For each expectation the indexes of those that it comes behind, and of those that come behind it.
        self.before = _before(expectations)
        self.behind = _turned(self.before)
        self._cases = None

    @property
    def is_free(self):
        """Whether no expectation comes after another one."""
        return all([expectation.after == () for expectation in self.expectations])

    @property
    def told(self):
        """The plan as a value."""
        return tuple([_told(expectation) for expectation in self.expectations])

    @staticmethod
    def of(told):
        """The plan that a told describes."""
        if not isinstance(told, tuple):
            raise BadPlan(0)
        try:
            expectations = [_expectation_of(row) for row in told]
            return Plan(*expectations)
        except (BadExpectation, BadPattern, BadPlan):
            raise BadPlan(0) from None

    def __eq__(self, other):
        return isinstance(other, Plan) and same(self.told, other.told)

    def names(self):
        """The names of the expectations, in their order."""
        return tuple([expectation.name for expectation in self.expectations])

    def expectation(self, name):
        """The expectation of this name."""
        for expectation in self.expectations:
            if expectation.name == name:
                return expectation
        raise NoName(name)

    def takers(self, call):
        """The names of those whose pattern accepts a call."""
        return tuple([self.expectations[index].name for index in taker_indexes(self, call)])

    def classes(self):
        """The pairs (takers, call): which expectations take some call together, and such a call."""
        names = self.names()
        return [(tuple([names[index] for index in takers]), call) for takers, call in self.cases()]

    def cases(self):
        """The same pairs with the indexes of the takers, ascending."""
        if self._cases is None:
            patterns = [expectation.pattern for expectation in self.expectations]
            found = {_indexes(marks): call for marks, call in classes(patterns)}
            self._cases = [(takers, found[takers]) for takers in sorted(found)]
        return list(self._cases)


def is_assignment(plan, record, thing):
    """Whether a thing is an assignment of a record: the names of those that take its calls."""
    calls = checked_record(record)
    names = plan.names()
    if not isinstance(thing, tuple) or len(thing) != len(calls) or not all([name in names for name in thing]):
        return False
    takers = [names.index(name) for name in thing]
    if not all([plan.expectations[index].pattern.accepts(call) for index, call in zip(takers, calls)]):
        return False
    state = start_of(plan)
    for index in takers:
        if not is_ready(plan, state, index):
            return False
        state = raised(state, index)
    return has_leasts(plan, state)


def checked_record(thing):
    """The calls of a record as a list; BadRecord if it is none."""
    if not isinstance(thing, (list, tuple)):
        raise BadRecord(0)
    for index, item in enumerate(thing):
        if not is_call(item):
            raise BadRecord(index)
    return list(thing)


def check_index(thing, count):
    """NoIndex if a thing is not the index of one of so many calls."""
    if not is_int(thing) or not 0 <= thing < count:
        raise NoIndex("this is not the index of a call")


def check_free(plan):
    """NotFree if an expectation of the plan comes after another one."""
    if not plan.is_free:
        raise NotFree("this is for plans without orders between expectations")


def taker_indexes(plan, call):
    """The indexes of the expectations whose pattern accepts a call."""
    return tuple([index for index, one in enumerate(plan.expectations) if one.pattern.accepts(call)])


def case_call(plan, inside, outside):
    """A call that all expectations with the indexes inside accept, and none of those outside; None if there is none."""
    for takers, call in plan.cases():
        if all([index in takers for index in inside]) and not any([index in takers for index in outside]):
            return call
    return None


def room_of(plan, indexes):
    """How many calls these expectations can take together."""
    return sum([plan.expectations[index].most for index in indexes])


def start_of(plan):
    """The state of noughts: no expectation has taken a call."""
    return (0,) * len(plan.expectations)


def has_leasts(plan, state):
    """Whether in a state all expectations have their least."""
    return lack(plan, state) == 0


def lack(plan, state):
    """How many calls the expectations need to have their leasts."""
    return sum([max(0, one.least - taken) for one, taken in zip(plan.expectations, state)])


def is_ready(plan, state, index):
    """Whether in a state an expectation may take a call that its pattern accepts."""
    if state[index] >= plan.expectations[index].most:
        return False
    if any([state[other] < plan.expectations[other].least for other in plan.before[index]]):
        return False
    return all([state[other] == 0 for other in plan.behind[index]])


def raised(state, index):
    """The state in which one expectation has taken one call more."""
    return state[:index] + (state[index] + 1,) + state[index + 1:]


def states_behind(plan, states, takers):
    """The ascending list of the states to which steps lead from these, by a call that these expectations accept."""
    return sorted({raised(state, index) for state in states for index in takers if is_ready(plan, state, index)})


def least_assignment(plan, options):
    """The least tuple of names that take calls so that all holds, each one of the indexes that the options give it.

    None if there is none.
    """
    found = _least_from(plan, options, start_of(plan), {})
    return None if found is None else tuple([plan.expectations[index].name for index in found])


def _least_from(plan, options, state, dead):
    """The least indexes that take the calls behind a state; None, and the state is dead then, if there are none."""
    at = sum(state)
    if at == len(options) and has_leasts(plan, state):
        return ()
    if at < len(options) and state not in dead:
        for index in options[at]:
            rest = _least_from(plan, options, raised(state, index), dead) if is_ready(plan, state, index) else None
            if rest is not None:
                return (index,) + rest
    dead[state] = True
    return None


def shortest_rest(plan, states):
    """A shortest list of calls that lead from one of these states to one in which all have their leasts."""
    state = min(states, key=lambda one: lack(plan, one))
    rest = []
    # Each expectation comes after earlier ones only, so in this order each may take the calls that it lacks.
    for index, expectation in enumerate(plan.expectations):
        rest.extend([case_call(plan, [index], [])] * max(0, expectation.least - state[index]))
    return rest


def _are_names(thing):
    """Whether a thing is a list of different names."""
    if not isinstance(thing, (list, tuple)) or not all([is_name(name) for name in thing]):
        return False
    return len(set(thing)) == len(thing)


def _fits(thing, names):
    """Whether a thing is an expectation that may stand behind those of these names."""
    if not isinstance(thing, Expectation) or thing.name in names:
        return False
    return all([name in names for name in thing.after])


def _before(expectations):
    """For each expectation the ascending indexes of those that it comes behind."""
    places = {expectation.name: index for index, expectation in enumerate(expectations)}
    found = []
    for expectation in expectations:
        direct = [places[name] for name in expectation.after]
        found.append(sorted(set(direct + [far for near in direct for far in found[near]])))
    return tuple([tuple(indexes) for indexes in found])


def _turned(before):
    """For each expectation the ascending indexes of those that come behind it."""
    places = range(len(before))
    return tuple([tuple([index for index in places if other in before[index]]) for other in places])


def _indexes(marks):
    """The places of the marks that are True."""
    return tuple([index for index, mark in enumerate(marks) if mark])


def _told(expectation):
    """An expectation as a value."""
    numbers = (expectation.least, expectation.most)
    return (expectation.name, expectation.pattern.told) + numbers + (expectation.after, expectation.answer)


def _expectation_of(told):
    """The expectation that a told describes."""
    if not isinstance(told, tuple) or len(told) != 6 or not isinstance(told[4], tuple):
        raise BadPlan(0)
    name, pattern, least, most, after, answer = told
    return Expectation(name, Calls.of(pattern), least=least, most=most, after=after, answer=answer)
