"""Patterns of values, and patterns of calls."""

from calltakers.errors import BadPattern
from calltakers.values import KINDS, checked_call, checked_value, is_int, is_name, is_named, is_path, is_value
from calltakers.values import kind_of, same

# The words of the patterns with a fixed number of arguments, and this number.
SIZES = {"anything": 0, "exactly": 1, "kind": 1, "between": 2, "begins": 1, "not": 1}


class Pattern:
    """What all patterns of values stand under; only the classes below are made."""

    @property
    def told(self):
        """The pattern as a value; each class below has its own."""
        raise NotImplementedError("a class under Pattern tells of itself")

    @staticmethod
    def of(told):
        """The pattern of values that a told describes."""
        if not _has_word(told):
            raise BadPattern("this tells of no pattern")
        word, parts = told[0], told[1:]
        if word in ("items", "both", "either"):
            return _joined(word, [Pattern.of(part) for part in parts])
        if SIZES.get(word) != len(parts):
            raise BadPattern("this tells of no pattern of values")
        return _single(word, parts)

    def accepts(self, value):
        """Whether the pattern accepts a value; each class below has its own."""
        raise NotImplementedError("a class under Pattern accepts")

    def __eq__(self, other):
        return isinstance(other, Pattern) and same(self.told, other.told)

    def __and__(self, other):
        return Both(self, other)

    def __or__(self, other):
        return Either(self, other)

    def __invert__(self):
        return Not(self)


class Anything(Pattern):
    """Accepts every value."""

    @property
    def told(self):
        """The pattern as a value."""
        return ("anything",)

    def accepts(self, value):
        """Whether the pattern accepts a value: always."""
        checked_value(value)
        return True


class Exactly(Pattern):
    """Accepts one value."""

    def __init__(self, value):
        if not is_value(value):
            raise BadPattern("Exactly takes a value")
        self.value = value

    @property
    def told(self):
        """The pattern as a value."""
        return ("exactly", self.value)

    def accepts(self, value):
        """Whether a value is the one of the pattern."""
        return same(value, self.value)


class Kind(Pattern):
    """Accepts the values of one kind."""

    def __init__(self, kind):
        if kind not in KINDS:
            raise BadPattern("Kind takes a kind of values")
        self.kind = kind

    @property
    def told(self):
        """The pattern as a value."""
        return ("kind", self.kind)

    def accepts(self, value):
        """Whether a value is of the kind of the pattern."""
        return kind_of(value) == self.kind


class Between(Pattern):
    """Accepts the integers from low to high; None stands for no bound."""

    def __init__(self, low, high):
        if not _is_bound(low) or not _is_bound(high):
            raise BadPattern("Between takes integers, or None for no bound")
        self.low = low
        self.high = high

    @property
    def told(self):
        """The pattern as a value."""
        return ("between", self.low, self.high)

    def accepts(self, value):
        """Whether a value is an integer between the bounds."""
        if kind_of(value) != "int":
            return False
        return (self.low is None or self.low <= value) and (self.high is None or value <= self.high)


class Begins(Pattern):
    """Accepts the strings that begin with a text."""

    def __init__(self, text):
        if not isinstance(text, str):
            raise BadPattern("Begins takes a string")
        self.text = text

    @property
    def told(self):
        """The pattern as a value."""
        return ("begins", self.text)

    def accepts(self, value):
        """Whether a value is a string that begins with the text."""
        return kind_of(value) == "text" and value.startswith(self.text)


class Items(Pattern):
    """Accepts the tuples of as many items as there are patterns, each accepted by its pattern."""

    def __init__(self, *patterns):
        self.patterns = _checked_patterns(patterns)

    @property
    def told(self):
        """The pattern as a value."""
        return ("items",) + _tolds(self.patterns)

    def accepts(self, value):
        """Whether a value is a tuple whose items are accepted, each by its pattern."""
        return kind_of(value) == "tuple" and _accept_all(self.patterns, value)


class Both(Pattern):
    """Accepts what all of its patterns accept; of no patterns, every value."""

    def __init__(self, *patterns):
        self.patterns = _checked_patterns(patterns)

    @property
    def told(self):
        """The pattern as a value."""
        return ("both",) + _tolds(self.patterns)

    def accepts(self, value):
        """Whether all patterns accept a value."""
        checked_value(value)
        return all([pattern.accepts(value) for pattern in self.patterns])


class Either(Pattern):
    """Accepts what some of its patterns accept; of no patterns, nothing."""

    def __init__(self, *patterns):
        self.patterns = _checked_patterns(patterns)

    @property
    def told(self):
        """The pattern as a value."""
        return ("either",) + _tolds(self.patterns)

    def accepts(self, value):
        """Whether some of the patterns accept a value."""
        checked_value(value)
        return any([pattern.accepts(value) for pattern in self.patterns])


class Not(Pattern):
    """Accepts what its pattern does not accept."""

    def __init__(self, pattern):
        if not is_pattern(pattern):
            raise BadPattern("Not takes a pattern of values")
        self.pattern = pattern

    @property
    def told(self):
        """The pattern as a value."""
        return ("not", self.pattern.told)

    def accepts(self, value):
        """Whether the pattern within does not accept a value."""
        return not self.pattern.accepts(value)


class Calls:
    """Accepts the calls of a path (None: of any path) with just such arguments."""

    def __init__(self, path, *patterns, **named):
        if path is not None and not is_path(path):
            raise BadPattern("Calls takes a path, or None for any path")
        if not all([is_name(name) for name in named]):
            raise BadPattern("Calls takes named patterns of just such names as calls have")
        names = sorted(named)
        self.path = path
        self.patterns = _checked_patterns(patterns)
        self.named = tuple(zip(names, _checked_patterns([named[name] for name in names])))

    @property
    def told(self):
        """The pattern as a value."""
        return ("calls", self.path, _tolds(self.patterns), tuple([(pair[0], pair[1].told) for pair in self.named]))

    @staticmethod
    def of(told):
        """The pattern of calls that a told describes: also AnyCall."""
        if not _has_word(told):
            raise BadPattern("this tells of no pattern")
        if told == ("anycall",):
            return AnyCall()
        if told[0] != "calls" or len(told) != 4:
            raise BadPattern("this tells of no pattern of calls")
        path, parts, pairs = told[1:]
        if not isinstance(parts, tuple) or not is_named(pairs):
            raise BadPattern("these are no arguments of a pattern of calls")
        patterns = [Pattern.of(part) for part in parts]
        named = {pair[0]: Pattern.of(pair[1]) for pair in pairs}
        return Calls(path, *patterns, **named)

    def accepts(self, call):
        """Whether the pattern accepts a call."""
        path, arguments, named = checked_call(call)
        if self.path is not None and path != self.path:
            return False
        if [pair[0] for pair in named] != [pair[0] for pair in self.named]:
            return False
        patterns = self.patterns + tuple([pair[1] for pair in self.named])
        return _accept_all(patterns, arguments + tuple([pair[1] for pair in named]))

    def __eq__(self, other):
        return isinstance(other, Calls) and same(self.told, other.told)


class AnyCall:
    """Accepts every call."""

    @property
    def told(self):
        """The pattern as a value."""
        return ("anycall",)

    def accepts(self, call):
        """Whether the pattern accepts a call: always."""
        checked_call(call)
        return True

    def __eq__(self, other):
        return isinstance(other, AnyCall)


def is_pattern(thing):
    """Whether a thing is a pattern of values; a bare Pattern is none."""
    return isinstance(thing, Pattern) and type(thing) is not Pattern


def is_call_pattern(thing):
    """Whether a thing is a pattern of calls."""
    return isinstance(thing, (Calls, AnyCall))


def _is_bound(thing):
    """Whether a thing is a bound of integers."""
    return thing is None or is_int(thing)


def _checked_patterns(things):
    """The things as a tuple; BadPattern if one of them is no pattern of values."""
    if not all([is_pattern(thing) for thing in things]):
        raise BadPattern("patterns of values are made of patterns of values")
    return tuple(things)


def _tolds(patterns):
    """The tuple of what the patterns tell."""
    return tuple([pattern.told for pattern in patterns])


def _accept_all(patterns, values):
    """Whether there are as many values as patterns, each accepted by its pattern."""
    if len(patterns) != len(values):
        return False
    return all([pattern.accepts(value) for pattern, value in zip(patterns, values)])


def _has_word(told):
    """Whether a thing is a tuple that begins with a string, as what a pattern tells does."""
    return isinstance(told, tuple) and len(told) > 0 and isinstance(told[0], str)


def _joined(word, patterns):
    """The pattern of this word, made of any number of patterns."""
    if word == "items":
        return Items(*patterns)
    if word == "both":
        return Both(*patterns)
    return Either(*patterns)


def _single(word, parts):
    """The pattern of a word of SIZES, made of as many parts."""
    if word == "anything":
        return Anything()
    if word == "between":
        low, high = parts
        return Between(low, high)
    part = parts[0]
    if word == "exactly":
        return Exactly(part)
    if word == "kind":
        return Kind(part)
    if word == "begins":
        return Begins(part)
    return Not(Pattern.of(part))
