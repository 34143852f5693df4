"""Things that differ from a tuple in one place."""

WORDS = ["anything", "exactly", "kind", "between", "begins", "items", "both", "either", "not", "calls", "anycall",
         "pattern", "Kind", "", "none", "int", "self", "path", "a", "zz", "it", "a.b.c.d.e", "db.open"]
OTHERS = [None, True, False, 0, 1, -1, (), [], {}, ("anything",), ("exactly", 1), ("anycall",), ("a", ("anything",)),
          1.0, b"a"]


def spoilt(thing):
    """A list of things that differ from this one in one place; some of them may be good."""
    found = [other for other in WORDS + OTHERS if other is not thing]
    if not isinstance(thing, tuple):
        return found
    found.append(list(thing))
    found.append((thing,))
    for at, item in enumerate(thing):
        before, behind = thing[:at], thing[at + 1:]
        found.append(before + behind)
        found.append(before + (item, item) + behind)
        found.extend([before + (other,) + behind for other in spoilt(item)])
        if behind:
            found.append(before + (behind[0], item) + behind[1:])
    found.extend([thing + (other,) for other in WORDS + OTHERS])
    found.extend([(other,) + thing for other in WORDS + OTHERS])
    return found
