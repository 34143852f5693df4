"""Values and calls: what they are, and the order of values."""

from calltakers.errors import BadCall, BadValue

KINDS = ("none", "bool", "int", "text", "tuple")
LETTERS = "abcdefghijklmnopqrstuvwxyz"
LONGEST_NAME = 8
LONGEST_PATH = 4
# A method's own object and a path are passed under these names.
TAKEN_NAMES = ("self", "path")


def is_int(thing):
    """Whether a thing is an integer; a bool is none."""
    return isinstance(thing, int) and not isinstance(thing, bool)


def is_name(thing):
    """Whether a thing is a name."""
    if not isinstance(thing, str) or thing in TAKEN_NAMES:
        return False
    return 1 <= len(thing) <= LONGEST_NAME and all([letter in LETTERS for letter in thing])


def is_path(thing):
    """Whether a thing is a path of a call."""
    if not isinstance(thing, str):
        return False
    names = thing.split(".")
    return len(names) <= LONGEST_PATH and all([is_name(name) for name in names])


def is_value(thing):
    """Whether a thing is a value."""
    if isinstance(thing, tuple):
        return all([is_value(item) for item in thing])
    return thing is None or isinstance(thing, (bool, int, str))


def is_named(thing):
    """Whether a thing is a tuple of pairs of a name and a value, the names ascending and different."""
    if not isinstance(thing, tuple) or not all([_is_pair(item) for item in thing]):
        return False
    names = [pair[0] for pair in thing]
    return names == sorted(set(names))


def _is_pair(thing):
    """Whether a thing is a pair of a name and a value."""
    return isinstance(thing, tuple) and len(thing) == 2 and is_name(thing[0]) and is_value(thing[1])


def is_call(thing):
    """Whether a thing is a call."""
    if not isinstance(thing, tuple) or len(thing) != 3:
        return False
    path, arguments, named = thing
    return is_path(path) and isinstance(arguments, tuple) and is_value(arguments) and is_named(named)


def checked_value(thing):
    """The thing itself; BadValue if it is no value."""
    if not is_value(thing):
        raise BadValue("this is no value")
    return thing


def checked_call(thing):
    """The thing itself; BadCall if it is no call."""
    if not is_call(thing):
        raise BadCall(thing)
    return thing


def kind_of(value):
    """The kind of a value: a word of KINDS."""
    return KINDS[_rank(checked_value(value))]


def _rank(value):
    """The place of a value's kind in KINDS."""
    if value is None:
        return 0
    # Bools are asked for first, since Python takes them for integers, too.
    if isinstance(value, bool):
        return 1
    if isinstance(value, int):
        return 2
    return 3 if isinstance(value, str) else 4


def order_key(value):
    """A tuple that stands for a value: Python compares such tuples as the values are ordered."""
    if isinstance(value, tuple):
        return (_rank(value), tuple([order_key(item) for item in value]))
    return (_rank(value), value)


def same(one, other):
    """Whether two values have the same kind and the same content, at every depth."""
    return compare(one, other) == 0


def compare(one, other):
    """-1, 0 or 1: whether a value comes before another one, is the same, or comes behind it."""
    first = order_key(checked_value(one))
    second = order_key(checked_value(other))
    if first < second:
        return -1
    return 1 if first > second else 0


def call(path, *arguments, **named):
    """The call of a path with these arguments, the named ones ascending."""
    if not is_path(path):
        raise BadCall(path)
    made = (path, arguments, tuple([(name, named[name]) for name in sorted(named)]))
    # The path is one and the names ascend, so only an argument or a name can be wrong.
    if not is_call(made):
        raise BadValue("an argument is no value, or has a name that is none")
    return made
