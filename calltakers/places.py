"""Places that hold values, and replacements that show other values there while they are in force."""

from calltakers.errors import BadCount, BadName, BadOrder, NoPlace
from calltakers.values import checked_value, is_name


class Turn:
    """One run of places: when it is over, the replacements that it began are ended."""

    def __init__(self):
        self.is_over = False


class Replacement:
    """Shows another value at a place, or none, while it is in force."""

    def __init__(self, places, name, shown):
        self.places = places
        self.name = name
        # (value,), or () where the place seems absent.
        self.shown = shown
        # The turns that began it: it is in force no longer than they last.
        self.turns = []
        self._has_begun = False

    @property
    def in_force(self):
        """Whether it has begun and not ended."""
        return self._has_begun and not any([turn.is_over for turn in self.turns])

    def begin(self):
        """It is in force, behind all that began before."""
        if self.in_force:
            raise BadOrder("a replacement that is in force cannot begin")
        places = self.places
        places.begun = [one for one in places.begun if one.in_force] + [self]
        # What turns that are over began has ended; those that last end it, too, when it begins again meanwhile.
        self.turns = [turn for turn in self.turns if not turn.is_over]
        self._has_begun = True

    def end(self):
        """It is not in force any more."""
        if not self.in_force:
            raise BadOrder("a replacement that is not in force cannot end")
        self._has_begun = False


class Places:
    """Values by names: what is held, and what is seen, which replacements in force may change."""

    def __init__(self, contents=()):
        self._held = {}
        # The replacements that began, in this order; some of them may have ended.
        self.begun = []
        for name, value in contents:
            if not is_name(name) or name in self._held:
                raise BadName(name)
            self._held[name] = checked_value(value)

    def read(self, name):
        """The value that is seen at a place."""
        seen = self._seen(name)
        if not seen:
            raise NoPlace(name)
        return seen[0]

    def has(self, name):
        """Whether a value is seen at a place."""
        return len(self._seen(name)) == 1

    def names(self):
        """The names of the places at which a value is seen, in alphabetical order."""
        return tuple([name for name in sorted(set(list(self._held) + [one.name for one in self.begun]))
                      if self.has(name)])

    def write(self, name, value):
        """A place holds a value."""
        if not is_name(name):
            raise BadName(name)
        self._held[name] = checked_value(value)

    def remove(self, name):
        """A place holds nothing any more."""
        if not is_name(name) or name not in self._held:
            raise NoPlace(name)
        del self._held[name]

    def replaced(self, name, *values):
        """A replacement of a place, not yet in force: by one value, or by none."""
        if not is_name(name):
            raise BadName(name)
        if len(values) > 1:
            raise BadCount("a replacement shows one value, or none")
        return Replacement(self, name, tuple([checked_value(value) for value in values]))

    def run(self, work, *replacements):
        """The result of work, which is called with these places while the replacements are in force."""
        if not all([isinstance(one, Replacement) and one.places == self for one in replacements]):
            raise BadOrder("these are no replacements of these places")
        turn = Turn()
        try:
            for one in replacements:
                one.begin()
                one.turns.append(turn)
            return work(self)
        finally:
            # One assignment ends all that began, so nothing is left out, whatever error is passed on.
            turn.is_over = True

    def _seen(self, name):
        """(value,) with the value that is seen at a place, or () without one."""
        if not is_name(name):
            return ()
        shown = [one.shown for one in self.begun if one.name == name and one.in_force]
        if shown:
            return shown[-1]
        return (self._held[name],) if name in self._held else ()
