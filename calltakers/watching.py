"""A watcher of calls, which reports a failure at the first call behind which nothing can be kept."""

from calltakers.errors import Lost
from calltakers.plans import has_leasts, shortest_rest, start_of, states_behind, taker_indexes
from calltakers.values import checked_call


class Watcher:
    """Sees calls one by one and says whether they are kept, can be kept, or are lost."""

    def __init__(self, plan):
        self._plan = plan
        self._calls = []
        self._states = [start_of(plan)]

    @property
    def verdict(self):
        """The verdict on the calls so far: "kept", "open" or "lost"."""
        if not self._states:
            return "lost"
        return "kept" if any([has_leasts(self._plan, state) for state in self._states]) else "open"

    def see(self, call):
        """The verdict on the calls so far and this one behind them."""
        takers = taker_indexes(self._plan, checked_call(call))
        self._calls.append(call)
        self._states = states_behind(self._plan, self._states, takers)
        return self.verdict

    def record(self):
        """The calls so far."""
        return list(self._calls)

    def rest(self):
        """A shortest list of calls that can follow such that all is kept."""
        if not self._states:
            raise Lost("nothing can follow such that the calls are kept")
        return shortest_rest(self._plan, self._states)

    def twin(self):
        """An independent watcher that stands alike."""
        other = Watcher(self._plan)
        other._calls = list(self._calls)
        other._states = list(self._states)
        return other
