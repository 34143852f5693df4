"""Stand-ins: they record the calls that they receive, and answer them as rules say."""

from calltakers.errors import BadCall, BadName, BadPattern, BadResult, BadRule, BadValue, Faulted
from calltakers.patterns import is_call_pattern
from calltakers.plans import checked_record
from calltakers.values import call, is_name, is_path, is_value


class Fault:
    """A result that raises Faulted with this word."""

    def __init__(self, word):
        if not is_name(word):
            raise BadName(word)
        self.word = word

    def __eq__(self, other):
        return isinstance(other, Fault) and self.word == other.word


class Rule:
    """Gives its outcomes one after the other to the calls that its pattern accepts."""

    def __init__(self, pattern, results, again):
        self._pattern = pattern
        self._outcomes = [_outcome(result) for result in results]
        self._again = again
        self._given = 0

    def takes(self, made):
        """Whether the rule is not spent and accepts a call."""
        return self._given < len(self._outcomes) and self._pattern.accepts(made)

    def next_outcome(self):
        """The outcome that is next; the rule stands behind it then."""
        outcome = self._outcomes[self._given]
        self._given += 1
        if self._again and self._given == len(self._outcomes):
            self._given = 0
        return outcome

    def begin_anew(self):
        """The first outcome is next."""
        self._given = 0


class Tree:
    """What the stand-ins of a tree have together: their rules, and the log of their calls."""

    def __init__(self):
        self.rules = []
        self.entries = []

    def outcome_of(self, made):
        """The outcome of a call, by the newest rule that takes it; it stands in the log then."""
        outcome = ("gave", None)
        taking = [rule for rule in self.rules if rule.takes(made)]
        if taking:
            outcome = taking[-1].next_outcome()
        self.entries.append((made, outcome))
        return outcome

    def begin_anew(self):
        """The log is empty, and all rules begin anew."""
        self.entries = []
        for rule in self.rules:
            rule.begin_anew()


class Standin:
    """Stands in for a part of a program, and by its children for the parts of that."""

    def __init__(self, name="it"):
        if not is_name(name):
            raise BadCall(name)
        self.path = name
        self._tree = Tree()
        self._children = {}

    def child(self, name):
        """The stand-in of this name below this one: always the same object."""
        if not is_name(name) or not is_path(self.path + "." + name):
            raise BadCall(name)
        if name not in self._children:
            made = self._alike(name)
            made.path = self.path + "." + name
            made._tree = self._tree
            self._children[name] = made
        return self._children[name]

    def receive(self, *arguments, **named):
        """Records a call of this stand-in; gives the result of the rule that takes it, or None without one."""
        word, result = self._tree.outcome_of(self._made_call(arguments, named))
        if word == "raised":
            raise Faulted(result)
        return result

    def will(self, pattern, *results, again=False):
        """Adds a rule to the tree: what calls that a pattern accepts are given, one after the other."""
        if not is_call_pattern(pattern):
            raise BadPattern("a rule has a pattern of calls")
        wrong = [index for index, result in enumerate(results) if not _is_result(result)]
        if wrong or not results:
            raise BadResult(wrong[0] if wrong else 0)
        self._tree.rules.append(Rule(pattern, results, again))

    def log(self):
        """The list of the pairs (call, outcome) of all calls of the tree."""
        return list(self._tree.entries)

    def record(self):
        """The list of the calls of this stand-in."""
        return [made for made, _ in self._tree.entries if made[0] == self.path]

    def below(self):
        """The list of the calls of this stand-in and of all that descend from it."""
        beginning = self.path + "."
        return [made for made, _ in self._tree.entries if made[0] == self.path or made[0].startswith(beginning)]

    def reset(self):
        """The log of the tree is empty, and all its rules begin anew."""
        self._tree.begin_anew()

    def _alike(self, name):
        """A new stand-in of the same class."""
        return Standin(name)

    def _made_call(self, arguments, named):
        """The call of this stand-in with these arguments."""
        # Of call itself, path is a parameter: it cannot be passed by this name.
        if "path" in named:
            raise BadValue("an argument is named path, which is no name")
        return call(self.path, *arguments, **named)


def outcomes(rules, record):
    """The list of the outcomes that a new tree with these rules, the oldest first, gives to the calls of a record."""
    if not isinstance(rules, (list, tuple)):
        raise BadRule(0)
    tree = Tree()
    for index, row in enumerate(rules):
        if not _is_rule(row):
            raise BadRule(index)
        pattern, results, again = row
        tree.rules.append(Rule(pattern, results, again))
    return [tree.outcome_of(made) for made in checked_record(record)]


def _is_result(thing):
    """Whether a thing is a result of a rule: a value or a Fault."""
    return is_value(thing) or isinstance(thing, Fault)


def _is_rule(thing):
    """Whether a thing is a tuple (pattern, results, again) that makes a rule."""
    if not isinstance(thing, tuple) or len(thing) != 3:
        return False
    pattern, results, again = thing
    if not is_call_pattern(pattern) or not isinstance(again, bool) or not isinstance(results, (list, tuple)):
        return False
    return len(results) > 0 and all([_is_result(result) for result in results])


def _outcome(result):
    """The outcome of a call that is given this result."""
    return ("raised", result.word) if isinstance(result, Fault) else ("gave", result)
