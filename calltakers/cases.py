"""Cases: values and calls that patterns accept together, or some of them without others."""

from calltakers.errors import BadPattern
from calltakers.patterns import Begins, Between, Both, Calls, Either, Exactly, Items, Not, is_call_pattern, is_pattern
from calltakers.values import LETTERS, is_int

# The signs with which an example goes on behind a beginning, and one for where all of these are taken.
SIGNS = "abcdefghijklmnopqrstuvwxyzABCDEFGHIJKLMNOPQRSTUVWXYZ0123456789 !\"#$&'()*+,-./:;<=>?@[\\]^_`{|}~\n"
RARE_SIGN = "\t"


def example(one, *, outside=()):
    """(x,) with a value or a call that one accepts and none of those outside does; None if there is none."""
    if not isinstance(outside, (list, tuple)):
        raise BadPattern("outside is a list of patterns")
    for thing in _things([one, *outside]):
        if one.accepts(thing) and not any([pattern.accepts(thing) for pattern in outside]):
            return (thing,)
    return None


def common(one, other):
    """(x,) with a value or a call that both patterns accept; None if there is none."""
    for thing in _things([one, other]):
        if one.accepts(thing) and other.accepts(thing):
            return (thing,)
    return None


def classes(patterns):
    """The pairs (marks, call), ascending: which of the patterns of calls accept some call together, and such a call."""
    if not isinstance(patterns, (list, tuple)) or not all([is_call_pattern(pattern) for pattern in patterns]):
        raise BadPattern("classes takes a list of patterns of calls")
    found = {}
    for thing in _calls(patterns):
        marks = tuple([pattern.accepts(thing) for pattern in patterns])
        if marks not in found:
            found[marks] = thing
    return [(marks, found[marks]) for marks in sorted(found)]


def _things(patterns):
    """Values or calls such that whatever the patterns accept together or not, they do so with one of these."""
    if all([is_pattern(pattern) for pattern in patterns]):
        return _values(patterns)
    if all([is_call_pattern(pattern) for pattern in patterns]):
        return _calls(patterns)
    raise BadPattern("these are no patterns, or some of values and some of calls")


def _values(patterns):
    """Values, one at least for each set of the patterns that accept some value while the others do not."""
    atoms = _all_atoms(patterns)
    return [None, False, True] + _integers(atoms) + _texts(atoms) + _tuples(atoms)


def _all_atoms(patterns):
    """The patterns of which these are joined by Both, Either and Not."""
    return [atom for pattern in patterns for atom in _atoms(pattern)]


def _atoms(pattern):
    """The patterns of which this one is joined by Both, Either and Not, itself if it is not joined."""
    if isinstance(pattern, Not):
        return _atoms(pattern.pattern)
    if isinstance(pattern, (Both, Either)):
        return _all_atoms(pattern.patterns)
    return [pattern]


def _integers(atoms):
    """The least integer of each stretch in which no atom begins or ceases to accept, and one below all of them."""
    cuts = []
    for atom in atoms:
        if isinstance(atom, Between):
            cuts.extend([] if atom.low is None else [atom.low])
            cuts.extend([] if atom.high is None else [atom.high + 1])
        elif isinstance(atom, Exactly) and is_int(atom.value):
            cuts.extend([atom.value, atom.value + 1])
    cuts = sorted(set(cuts))
    return [cuts[0] - 1] + cuts if cuts else [0]


def _texts(atoms):
    """The strings of the atoms, and for each beginning one that goes on behind it apart from all the others."""
    begins = [""] + [atom.text for atom in atoms if isinstance(atom, Begins)]
    exact = [atom.value for atom in atoms if isinstance(atom, Exactly) and isinstance(atom.value, str)]
    taken = sorted(set(begins + exact))
    return taken + [_longer(begun, begins, exact) for begun in sorted(set(begins))]


def _longer(begun, begins, exact):
    """A string behind this beginning that is none of the exact ones, and behind no longer one of the beginnings."""
    found = _plain_longer(begun, begins, exact)
    return begun + RARE_SIGN if found is None else found


def _plain_longer(begun, begins, exact):
    """Such a string of the usual signs; None if there is none."""
    for sign in SIGNS:
        if begun + sign not in begins and begun + sign not in exact:
            return begun + sign
    for sign in SIGNS:
        if begun + sign not in begins:
            found = _plain_longer(begun + sign, begins, exact)
            if found is not None:
                return found
    return None


def _tuples(atoms):
    """Tuples of each length that the atoms know, as many as it takes, and one of another length."""
    rows = [_row(atom) for atom in atoms if _is_row(atom)]
    lengths = sorted(set([len(row) for row in rows]))
    found = [(None,) * _least_beside(lengths)]
    for length in lengths:
        found.extend(_met([row for row in rows if len(row) == length], length))
    return found


def _is_row(atom):
    """Whether an atom accepts tuples of one length."""
    return isinstance(atom, Items) or isinstance(atom, Exactly) and isinstance(atom.value, tuple)


def _row(atom):
    """The patterns of the items, of an atom that accepts tuples of one length."""
    if isinstance(atom, Items):
        return atom.patterns
    return tuple([Exactly(item) for item in atom.value])


def _least_beside(numbers):
    """The least number from 0 that is none of these."""
    return min([number for number in range(len(numbers) + 1) if number not in numbers])


def _met(rows, width):
    """Tuples, one for each set of the rows that accept a tuple item by item while the others do not."""
    # Of the tuples begun so far it matters only which rows accept all their items: a bit for each row.
    begun = {(1 << len(rows)) - 1: ()}
    for place in range(width):
        marked = _marked([row[place] for row in rows])
        longer = {}
        for bits, items in begun.items():
            for more, item in marked.items():
                if bits & more not in longer:
                    longer[bits & more] = items + (item,)
        begun = longer
    return list(begun.values())


def _marked(patterns):
    """A dict from the sets of the patterns that accept some value while the others do not, as bits, to such values."""
    found = {}
    for value in _values(patterns):
        bits = sum([1 << place for place, pattern in enumerate(patterns) if pattern.accepts(value)])
        if bits not in found:
            found[bits] = value
    return found


def _calls(patterns):
    """Calls, one at least for each set of the patterns that accept some call while the others do not."""
    told = [pattern for pattern in patterns if isinstance(pattern, Calls)]
    paths = sorted(set([pattern.path for pattern in told if pattern.path is not None]))
    paths.append(_path_beside(paths))
    shapes = sorted(set([_shape(pattern) for pattern in told]))
    bare = _least_beside([many for many, names in shapes if names == ()])
    found = [(paths[-1], (None,) * bare, ())]
    for shape in shapes:
        for path in paths:
            rows = [_call_row(one) for one in told if _shape(one) == shape and one.path in (None, path)]
            found.extend([_call(path, shape, items) for items in _met(rows, shape[0] + len(shape[1]))])
    return found


def _shape(pattern):
    """How many arguments a pattern of calls takes, and the names of the named ones."""
    return (len(pattern.patterns), tuple([pair[0] for pair in pattern.named]))


def _call_row(pattern):
    """The patterns of the arguments and of the named arguments, of a pattern of calls."""
    return pattern.patterns + tuple([pair[1] for pair in pattern.named])


def _call(path, shape, items):
    """The call of a path with these items: as many arguments as the shape has, then those of its names."""
    many, names = shape
    return (path, items[:many], tuple(zip(names, items[many:])))


def _path_beside(paths):
    """A path of a single name that is none of these."""
    names = [""]
    while True:
        names = [name + letter for name in names for letter in LETTERS]
        for name in names:
            if name not in paths:
                return name
