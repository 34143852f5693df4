"""A second, plain account of patterns by what they tell, which the tests compare the package with."""

from calltakers.patterns import Anything, AnyCall, Begins, Between, Both, Calls, Either, Exactly, Items, Kind, Not


def identical(one, other):
    """Whether two things are of the same class and content, True and 1 apart, at every depth."""
    if type(one) is not type(other):
        return False
    if isinstance(one, (tuple, list)):
        return len(one) == len(other) and all(identical(a, b) for a, b in zip(one, other))
    return one == other


def told_accepts(told, value):
    """Whether the pattern that tells this accepts a value."""
    word, parts = told[0], told[1:]
    if word == "anything":
        return True
    if word == "exactly":
        return identical(parts[0], value)
    if word == "kind":
        return {"none": type(None), "bool": bool, "int": int, "text": str, "tuple": tuple}[parts[0]] is type(value)
    if word == "between":
        low, high = parts
        return type(value) is int and not (low is not None and value < low) and not (high is not None and value > high)
    if word == "begins":
        return type(value) is str and value[:len(parts[0])] == parts[0]
    if word == "items":
        return type(value) is tuple and len(value) == len(parts) and all(map(told_accepts, parts, value))
    if word == "both":
        return not [part for part in parts if not told_accepts(part, value)]
    if word == "either":
        return [part for part in parts if told_accepts(part, value)] != []
    return not told_accepts(parts[0], value)


def told_accepts_call(told, call):
    """Whether the pattern of calls that tells this accepts a call."""
    if told == ("anycall",):
        return True
    _, path, parts, named = told
    wanted = dict(named)
    passed = dict(call[2])
    return (path in (None, call[0]) and len(parts) == len(call[1]) and all(map(told_accepts, parts, call[1]))
            and set(wanted) == set(passed) and all(told_accepts(wanted[name], passed[name]) for name in wanted))


def is_plain(thing):
    """Whether a thing is a value."""
    return type(thing) in (type(None), bool, int, str) or type(thing) is tuple and all(map(is_plain, thing))


def is_word(thing):
    """Whether a thing is a name."""
    letters = type(thing) is str and thing.isascii() and thing.isalpha() and thing.islower()
    return letters and len(thing) <= 8 and thing != "self" and thing != "path"


def is_route(thing):
    """Whether a thing is a path."""
    return type(thing) is str and len(thing.split(".")) < 5 and all(map(is_word, thing.split(".")))


def is_told(thing):
    """Whether some pattern of values tells this."""
    if type(thing) is not tuple or not thing or type(thing[0]) is not str:
        return False
    word, parts = thing[0], thing[1:]
    if word in ("items", "both", "either"):
        return all(map(is_told, parts))
    if word == "anything":
        return parts == ()
    if word == "between":
        return len(parts) == 2 and all(type(part) in (int, type(None)) for part in parts)
    if len(parts) != 1:
        return False
    if word == "kind":
        return type(parts[0]) is str and parts[0] in ("none", "bool", "int", "text", "tuple")
    return (word == "exactly" and is_plain(parts[0]) or word == "begins" and type(parts[0]) is str
            or word == "not" and is_told(parts[0]))


def is_call_told(thing):
    """Whether some pattern of calls tells this."""
    if type(thing) is not tuple or not is_plain(thing):
        return False
    if thing == ("anycall",):
        return True
    if len(thing) != 4 or thing[0] != "calls" or type(thing[2]) is not tuple or type(thing[3]) is not tuple:
        return False
    if not all(type(pair) is tuple and len(pair) == 2 and is_word(pair[0]) and is_told(pair[1]) for pair in thing[3]):
        return False
    names = [pair[0] for pair in thing[3]]
    ascending = all(one < other for one, other in zip(names, names[1:]))
    return (thing[1] is None or is_route(thing[1])) and all(map(is_told, thing[2])) and ascending


# Patterns of every class with what they tell, written out by hand.
TOLD = [
    (Anything(), ("anything",)),
    (Exactly(1), ("exactly", 1)),
    (Exactly(True), ("exactly", True)),
    (Exactly(0), ("exactly", 0)),
    (Exactly(None), ("exactly", None)),
    (Exactly("anything"), ("exactly", "anything")),
    (Exactly(()), ("exactly", ())),
    (Exactly((1, (True, "a"))), ("exactly", (1, (True, "a")))),
    (Exactly(((1,), (True, "a"))), ("exactly", ((1,), (True, "a")))),
    (Exactly((True, (1, "a"))), ("exactly", (True, (1, "a")))),
    (Exactly(("anything",)), ("exactly", ("anything",))),
    (Kind("none"), ("kind", "none")),
    (Kind("bool"), ("kind", "bool")),
    (Kind("int"), ("kind", "int")),
    (Kind("text"), ("kind", "text")),
    (Kind("tuple"), ("kind", "tuple")),
    (Between(0, 3), ("between", 0, 3)),
    (Between(3, 0), ("between", 3, 0)),
    (Between(1, 1), ("between", 1, 1)),
    (Between(-5, None), ("between", -5, None)),
    (Between(None, 7), ("between", None, 7)),
    (Between(None, None), ("between", None, None)),
    (Begins(""), ("begins", "")),
    (Begins("a"), ("begins", "a")),
    (Begins("none"), ("begins", "none")),
    (Items(), ("items",)),
    (Items(Exactly(1)), ("items", ("exactly", 1))),
    (Items(Anything(), Items(Exactly(True), Kind("int"))),
     ("items", ("anything",), ("items", ("exactly", True), ("kind", "int")))),
    (Both(), ("both",)),
    (Both(Kind("int")), ("both", ("kind", "int"))),
    (Both(Begins("a"), Not(Exactly("a")), Both()), ("both", ("begins", "a"), ("not", ("exactly", "a")), ("both",))),
    (Either(), ("either",)),
    (Either(Exactly(True)), ("either", ("exactly", True))),
    (Either(Exactly(1), Either(), Items(Anything())),
     ("either", ("exactly", 1), ("either",), ("items", ("anything",)))),
    (Not(Anything()), ("not", ("anything",))),
    (Not(Not(Exactly(False))), ("not", ("not", ("exactly", False)))),
    (Not(Both(Between(0, None), Either(Exactly(5), Between(None, 2)))),
     ("not", ("both", ("between", 0, None), ("either", ("exactly", 5), ("between", None, 2))))),
]
CALLS_TOLD = [
    (AnyCall(), ("anycall",)),
    (Calls(None), ("calls", None, (), ())),
    (Calls("it"), ("calls", "it", (), ())),
    (Calls("db.open"), ("calls", "db.open", (), ())),
    (Calls("a.b.c.d"), ("calls", "a.b.c.d", (), ())),
    (Calls("it", Exactly(1)), ("calls", "it", (("exactly", 1),), ())),
    (Calls("it", Exactly(True)), ("calls", "it", (("exactly", True),), ())),
    (Calls(None, Anything(), Items(Kind("int"))), ("calls", None, (("anything",), ("items", ("kind", "int"))), ())),
    (Calls("it", mode=Exactly(1)), ("calls", "it", (), (("mode", ("exactly", 1)),))),
    (Calls("it", zz=Kind("none"), a=Anything(), mode=Not(Exactly("x"))),
     ("calls", "it", (), (("a", ("anything",)), ("mode", ("not", ("exactly", "x"))), ("zz", ("kind", "none"))))),
    (Calls("db.open", Between(0, 9), Begins("a"), b=Either(), a=Both(Anything(), Anything())),
     ("calls", "db.open", (("between", 0, 9), ("begins", "a")),
      (("a", ("both", ("anything",), ("anything",))), ("b", ("either",))))),
]
