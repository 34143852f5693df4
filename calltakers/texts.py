"""Texts of values, calls, patterns and plans, and what they are read as."""

from calltakers.errors import BadExpectation, BadPattern, BadText
from calltakers.patterns import Calls, Pattern, is_call_pattern, is_pattern
from calltakers.plans import Expectation, Plan
from calltakers.values import checked_call, checked_value, is_call, is_int

WORDS = {"none": None, "no": False, "yes": True}
JOINED = ("items", "both", "either", "not")
# What stands behind a backslash in a string, and for which sign.
ESCAPED = {"\"": "\"", "\\": "\\", "n": "\n"}
DIGITS = "0123456789"
MOST_DIGITS = 40
MOST_OPEN = 20
# Each of these signs is a token of its own outside of strings.
SINGLE = "()= "
QUOTE = "\""


def value_text(value):
    """The text of a value."""
    return _value_text(checked_value(value))


def call_text(call):
    """The text of a call."""
    path, arguments, named = checked_call(call)
    items = [_value_text(value) for value in arguments] + [name + "=" + _value_text(value) for name, value in named]
    return path + _in_brackets(items)


def pattern_text(pattern):
    """The text of a pattern of values, or of calls."""
    if is_pattern(pattern):
        return _told_text(pattern.told)
    if not is_call_pattern(pattern):
        raise BadPattern("this is no pattern")
    if len(pattern.told) == 1:
        return "**"
    _, path, parts, named = pattern.told
    items = [_told_text(part) for part in parts] + [name + "=" + _told_text(part) for name, part in named]
    return ("*" if path is None else path) + _in_brackets(items)


def plan_text(plan):
    """The text of a plan: a row for each expectation."""
    return "".join([_row_text(expectation) + "\n" for expectation in plan.expectations])


def read_value(text):
    """The value of a text."""
    reader = Reader(text)
    value = reader.next_value()
    reader.check_end()
    return value


def read_call(text):
    """The call of a text."""
    reader = Reader(text)
    path = reader.take()
    arguments, named = reader.next_arguments(False)
    reader.check_end()
    if not is_call((path, arguments, named)):
        raise BadText(0)
    return (path, arguments, named)


def read_pattern(text):
    """The pattern of values of a text."""
    reader = Reader(text)
    told = reader.next_told()
    reader.check_end()
    try:
        return Pattern.of(told)
    except BadPattern:
        raise BadText(0) from None


def read_calls(text):
    """The pattern of calls of a text."""
    reader = Reader(text)
    pattern = reader.next_calls()
    reader.check_end()
    return pattern


def read_row(text):
    """The expectation of a row of a plan's text, without its newline."""
    reader = Reader(text)
    name = reader.take()
    reader.expect(" ")
    least, _, most = reader.take().partition("..")
    reader.expect(" ")
    pattern = reader.next_calls()
    after = reader.take().split(",") if reader.takes_word("after") else []
    answer = None
    if reader.takes_word("gives"):
        answer = reader.next_value()
        # None is the answer of a row without these words, and is written so.
        if answer is None:
            raise BadText(0)
    reader.check_end()
    try:
        return Expectation(name, pattern, least=_integer(least), most=_integer(most), after=after, answer=answer)
    except BadExpectation:
        raise BadText(0) from None


def read_plan(text):
    """The plan of a text."""
    if not isinstance(text, str):
        raise BadText(0)
    pieces = text.split("\n")
    expectations = []
    for index, row in enumerate(pieces[:-1]):
        try:
            expectations.append(read_row(row))
        except BadText:
            raise BadText(index) from None
    # What stands behind the last newline is a row without one.
    if pieces[-1] != "":
        raise BadText(len(expectations))
    return Plan(*expectations)


class Reader:
    """Reads a text part by part; BadText(0) where the text does not go on as it should."""

    def __init__(self, text):
        if not isinstance(text, str):
            raise BadText(0)
        self._tokens = _tokens_of(text)
        self._at = 0

    def peek(self):
        """The next token; the empty string behind the last one."""
        return self._tokens[self._at] if self._at < len(self._tokens) else ""

    def take(self):
        """The next token, which is behind then."""
        token = self.peek()
        self._at += 1
        return token

    def expect(self, token):
        """The next token is this one, and is behind then."""
        if self.take() != token:
            raise BadText(0)

    def takes_word(self, word):
        """Whether a word between spaces comes next; it is behind then."""
        if self._tokens[self._at:self._at + 3] != [" ", word, " "]:
            return False
        self._at += 3
        return True

    def check_end(self):
        """BadText(0) if a token is left."""
        if self._at < len(self._tokens):
            raise BadText(0)

    def next_value(self):
        """The value that comes next."""
        if self.peek() == "(":
            return self._next_items(False)
        token = self.take()
        return _string(token) if token.startswith(QUOTE) else _plain_value(token)

    def next_told(self):
        """What the pattern of values tells that comes next; it may be told of no pattern."""
        word = self.peek()
        if word.startswith(QUOTE) or word == "(":
            return ("exactly", self.next_value())
        self.take()
        if word == "any":
            return ("anything",)
        if word in JOINED:
            return (word,) + self._next_items(True)
        if word.startswith("kind:"):
            return ("kind", word.removeprefix("kind:"))
        if word == "begins:":
            return ("begins", _string(self.take()))
        if ".." in word:
            low, _, high = word.partition("..")
            return ("between", _bound(low), _bound(high))
        return ("exactly", _plain_value(word))

    def next_calls(self):
        """The pattern of calls that comes next."""
        path = self.take()
        told = ("anycall",)
        if path != "**":
            told = ("calls", None if path == "*" else path) + self.next_arguments(True)
        try:
            return Calls.of(told)
        except BadPattern:
            raise BadText(0) from None

    def next_arguments(self, are_patterns):
        """(arguments, named) that come next in brackets: values, or what patterns tell."""
        parts = []
        named = []
        self.expect("(")
        if self.peek() == ")":
            self.take()
            return ((), ())
        while True:
            name = self._next_name()
            part = self.next_told() if are_patterns else self.next_value()
            if name is not None:
                named.append((name, part))
            elif named:
                raise BadText(0)
            else:
                parts.append(part)
            if self.peek() == ")":
                self.take()
                return (tuple(parts), tuple(named))
            self.expect(" ")

    def _next_name(self):
        """The name of a named argument that comes next, with its sign; None if none comes next."""
        if self._tokens[self._at + 1:self._at + 2] != ["="]:
            return None
        name = self.take()
        self.take()
        return name

    def _next_items(self, are_patterns):
        """The items that come next in brackets, as a tuple: values, or what patterns tell."""
        parts, named = self.next_arguments(are_patterns)
        if named:
            raise BadText(0)
        return parts


def _in_brackets(items):
    """Texts in brackets, with single spaces between."""
    return "(" + " ".join(items) + ")"


def _value_text(value):
    """The text of what surely is a value."""
    if isinstance(value, tuple):
        return _in_brackets([_value_text(item) for item in value])
    if isinstance(value, str):
        return _quoted(value)
    if is_int(value):
        return str(value)
    if value is None:
        return "none"
    return "yes" if value else "no"


def _quoted(string):
    """A string in double quotes."""
    return QUOTE + string.replace("\\", "\\\\").replace(QUOTE, "\\\"").replace("\n", "\\n") + QUOTE


def _told_text(told):
    """The text of the pattern of values that tells this."""
    word, parts = told[0], told[1:]
    if word == "anything":
        return "any"
    if word == "exactly":
        return _value_text(parts[0])
    if word == "kind":
        return "kind:" + parts[0]
    if word == "between":
        return "..".join(["" if bound is None else str(bound) for bound in parts])
    if word == "begins":
        return "begins:" + _quoted(parts[0])
    return word + _in_brackets([_told_text(part) for part in parts])


def _row_text(expectation):
    """The row of an expectation, without its newline."""
    words = [expectation.name, f"{expectation.least}..{expectation.most}", pattern_text(expectation.pattern)]
    if expectation.after:
        words.extend(["after", ",".join(expectation.after)])
    if expectation.answer is not None:
        words.extend(["gives", _value_text(expectation.answer)])
    return " ".join(words)


def _tokens_of(text):
    """The parts of a text that are read at once: single signs, strings, and words between these."""
    tokens = []
    depth = 0
    at = 0
    while at < len(text):
        end = _end_of_token(text, at)
        token = text[at:end]
        if token == "(":
            depth += 1
        elif token == ")":
            depth -= 1
        if depth > MOST_OPEN:
            raise BadText(0)
        tokens.append(token)
        at = end
    return tokens


def _end_of_token(text, at):
    """The place behind the token that begins at a place."""
    if text[at] in SINGLE:
        return at + 1
    end = at + 1
    if text[at] == QUOTE:
        while end < len(text) and text[end] != QUOTE:
            end += 2 if text[end] == "\\" else 1
        return end + 1
    while end < len(text) and text[end] not in SINGLE and text[end] != QUOTE:
        end += 1
    return end


def _string(token):
    """The string that a token stands for."""
    signs = []
    at = 1
    while at < len(token) - 1:
        sign = token[at]
        if sign == "\\":
            at += 1
            sign = ESCAPED.get(token[at])
        elif sign == "\n":
            sign = None
        if sign is None:
            raise BadText(0)
        signs.append(sign)
        at += 1
    # The last quote is there, and no backslash stands before it.
    if at != len(token) - 1 or not token.startswith(QUOTE) or not token.endswith(QUOTE):
        raise BadText(0)
    return "".join(signs)


def _plain_value(word):
    """The value that a word stands for."""
    return WORDS[word] if word in WORDS else _integer(word)


def _integer(word):
    """The integer that a word stands for."""
    digits = word.removeprefix("-")
    if not 1 <= len(digits) <= MOST_DIGITS or not all([digit in DIGITS for digit in digits]):
        raise BadText(0)
    # Neither zeros in front nor a nought with a sign.
    if str(int(word)) != word:
        raise BadText(0)
    return int(word)


def _bound(word):
    """The bound of integers that a word stands for; None for no word."""
    return None if word == "" else _integer(word)
