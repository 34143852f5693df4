"""A console: lines that build a plan, pass calls, and ask about them."""

from calltakers.certainty import could_take
from calltakers.errors import BadPlan, BadText, Lost, NoIndex, NotFree
from calltakers.firstfit import trap
from calltakers.plans import Plan
from calltakers.rules import conflict
from calltakers.texts import call_text, read_call, read_row, read_value
from calltakers.values import is_int
from calltakers.watching import Watcher

NOTHING = "none"
# An index has one to four digits.
LIMIT = 10000


class Console:
    """Replies to lines about a plan and the calls so far."""

    def __init__(self):
        # Both are None before the first expectation.
        self._plan = None
        self._watcher = None

    def reply(self, line):
        """The reply to a line."""
        try:
            return self._answer_to(line)
        except BadText:
            return "what"
        except BadPlan:
            return "refused badplan"
        except NotFree:
            return "refused notfree"
        except Lost:
            return "refused lost"
        except NoIndex:
            return "refused noindex"

    def _answer_to(self, line):
        """The reply to a line; an error if it is refused."""
        if not isinstance(line, str):
            raise BadText(0)
        word, _, text = line.partition(" ")
        if word == "plan":
            return self._extended(text)
        if word == "call":
            return self._seen(text)
        if word == "who":
            return self._could_take(text)
        if line == "rest":
            return self._rest()
        if line == "trap":
            return self._trap()
        if line == "conflict":
            return self._conflict()
        if line == "undo":
            return self._undone()
        raise BadText(0)

    def _extended(self, text):
        """The plan gets one expectation more, and all begins anew."""
        expectation = read_row(text)
        before = () if self._plan is None else self._plan.expectations
        self._plan = Plan(*before, expectation)
        self._watcher = Watcher(self._plan)
        return "ok"

    def _seen(self, text):
        """The verdict on the calls with one more."""
        made = read_call(text)
        self._check_plan()
        return self._watcher.see(made)

    def _could_take(self, text):
        """The names of those that could take a call."""
        index = _index(text)
        self._check_plan()
        if self._watcher.verdict == "lost":
            return NOTHING
        return " ".join(could_take(self._plan, self._watcher.record(), index))

    def _rest(self):
        """Calls that can follow."""
        self._check_plan()
        return _calls_text(self._watcher.rest())

    def _trap(self):
        """The calls of a trap."""
        self._check_plan()
        return _calls_text(trap(self._plan))

    def _conflict(self):
        """The word of a conflict, and the two names."""
        self._check_plan()
        found = conflict(self._plan)
        return NOTHING if found is None else " ".join(found[:3])

    def _undone(self):
        """The last call is taken back."""
        self._check_plan()
        calls = self._watcher.record()
        if not calls:
            raise NoIndex("there is no call to take back")
        self._watcher = Watcher(self._plan)
        for made in calls[:-1]:
            self._watcher.see(made)
        return "ok"

    def _check_plan(self):
        """BadPlan before the first expectation."""
        if self._plan is None:
            raise BadPlan(0)


def _index(text):
    """The index that a text of one to four digits stands for."""
    index = read_value(text)
    if not is_int(index) or not 0 <= index < LIMIT:
        raise BadText(0)
    return index


def _calls_text(calls):
    """The texts of calls, one behind the other; of none, and of None, the same word."""
    return "; ".join([call_text(made) for made in calls]) if calls else NOTHING
