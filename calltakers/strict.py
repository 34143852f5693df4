"""Strict stand-ins: a plan answers their calls, and they raise an error at the earliest possible call."""

from calltakers.certainty import answers, could_take
from calltakers.errors import Missing, NotAllowed, Undecided, Unexpected
from calltakers.plans import raised, start_of
from calltakers.rules import conflict, narrowest_index
from calltakers.standins import Standin, Tree
from calltakers.watching import Watcher


class StrictTree(Tree):
    """What the strict stand-ins of a tree have together: a plan, a watcher of their calls, and the log."""

    def __init__(self, plan):
        Tree.__init__(self)
        self.plan = plan
        self.watcher = Watcher(plan)
        # Whether the narrowest rule gives the calls away; None while nobody has asked.
        self._is_ruled = None
        # The state to which the narrowest rule has led.
        self._state = start_of(plan)

    def outcome_of(self, made):
        """The outcome of a call, which stands in the log then; if it has none, nothing is changed."""
        watcher = self.watcher.twin()
        if watcher.see(made) == "lost":
            raise Unexpected(made)
        answer = self._ruled_answer(made) if self._has_rule() else self._left_answer(watcher.record())
        outcome = ("gave", answer)
        self.watcher = watcher
        self.entries.append((made, outcome))
        return outcome

    def begin_anew(self):
        """The log is empty, and the watcher begins anew."""
        super().begin_anew()
        self.watcher = Watcher(self.plan)
        self._state = start_of(self.plan)

    def _has_rule(self):
        """Whether the plan is free and has no conflict."""
        if self._is_ruled is None:
            self._is_ruled = self.plan.is_free and conflict(self.plan) is None
        return self._is_ruled

    def _ruled_answer(self, made):
        """The answer of the expectation to which the narrowest rule gives a call."""
        index = narrowest_index(self.plan, self._state, made)
        self._state = raised(self._state, index)
        return self.plan.expectations[index].answer

    def _left_answer(self, calls):
        """The only answer that is left for the last one of these calls."""
        left = answers(self.plan, calls)[-1]
        if len(left) > 1:
            raise Undecided(could_take(self.plan, calls, len(calls) - 1))
        return left[0]


class Strict(Standin):
    """A stand-in whose calls are to be kept by a plan, and are answered as the plan says."""

    def __init__(self, plan, *, name="it"):
        Standin.__init__(self, name)
        self._tree = StrictTree(plan)

    @property
    def verdict(self):
        """The verdict on the calls of the tree: "kept" or "open"."""
        return self._tree.watcher.verdict

    def receive(self, *arguments, **named):
        """Records a call of this stand-in; gives the answer of the plan."""
        _, answer = self._tree.outcome_of(self._made_call(arguments, named))
        return answer

    def will(self, pattern, *results, again=False):
        """Rules are not used here."""
        raise NotAllowed("a strict stand-in answers as its plan says")

    def reset(self):
        """The log of the tree is empty, and its watcher begins anew."""
        self._tree.begin_anew()

    def done(self):
        """Missing with a shortest list of calls that can follow, if the calls are not kept."""
        watcher = self._tree.watcher
        if watcher.verdict != "kept":
            raise Missing(watcher.rest())

    def checked(self, work):
        """The result of work, which is called with this stand-in, when all is done behind it."""
        result = work(self)
        self.done()
        return result

    def _alike(self, name):
        """A new stand-in of the same class."""
        return Strict(self._tree.plan, name=name)
