"""Where the contents of a far field come from.

Each source has `counts(near, had, touched)`, which tells whether its far field counts as set, and `told(near, had)`,
the content that it has then. `near` is the near thing, `had` the far contents if the far thing was of the kind and
otherwise None, `touched` the list of the names of the near fields that count as set.
"""

from oneheap.schemas.sorts import blank
from oneheap.views.ways import group_values, made_values


class NearFields:
    """A source of a list of near fields."""

    def __init__(self, names):
        self.names = list(names)

    def counts(self, near, had, touched):
        """Return whether the far field counts as set."""
        return had is None or any([name in touched for name in self.names])


class KeptContent(NearFields):
    """The content of one near field."""

    def __init__(self, name):
        NearFields.__init__(self, [name])

    def told(self, near, had):
        """Return the content that the far field has if it is set."""
        return near.contents[self.names[0]]


class HeldValue(NearFields):
    """The value of one near field if a shape holds it, otherwise another value."""

    def __init__(self, name, shape, otherwise):
        NearFields.__init__(self, [name])
        self.shape = shape
        self.otherwise = otherwise

    def told(self, near, had):
        """Return the content that the far field has if it is set."""
        value = near.contents[self.names[0]]
        return value if self.shape.holds(value) else self.otherwise


class FirstContent(NearFields):
    """What a field has that no near field tells: a value, or nothing."""

    def __init__(self, shape, value):
        NearFields.__init__(self, [])
        self.shape = shape
        self.value = value

    def told(self, near, had):
        """Return the content that the far field has if it is set."""
        return blank(self.shape) if self.value is None else self.value


class MadeValue(NearFields):
    """One of the values that are made of a group of near fields."""

    def __init__(self, line, place):
        NearFields.__init__(self, line.group)
        self.line = line
        self.place = place

    def told(self, near, had):
        """Return the content that the far field has if it is set."""
        return made_values(self.line, [near.contents[name] for name in self.names])[self.place]


class GroupValue(NearFields):
    """One of the values of a group to which made near fields lead back."""

    def __init__(self, line, shapes, place):
        NearFields.__init__(self, [field.name for field in line.made_fields])
        self.line = line
        self.shapes = list(shapes)
        self.place = place

    def told(self, near, had):
        """Return the content that the far field has if it is set."""
        made = [near.contents[name] for name in self.names]
        old = None if had is None else [had[name] for name in self.line.group]
        return group_values(self.line, self.shapes, made, old)[self.place]


class TellingText:
    """The text of the branch of the near kind, for the field that tells the branches of a split or a join."""

    def __init__(self, line):
        self.line = line

    def counts(self, near, had, touched):
        """Return whether the far field counts as set: not if what it had tells the near kind."""
        return had is None or told_kind(self.line, had[self.line.field]) != near.kind

    def told(self, near, had):
        """Return the content that the far field has if it is set."""
        return [branch.text for branch in self.line.branches if branch.kind == near.kind][0]


def told_kind(line, text):
    """Return the name of the kind that a telling field with this text tells."""
    for branch in line.branches:
        if branch.text == text:
            return branch.kind
    return line.branches[0].kind if line.otherwise is None else line.otherwise
