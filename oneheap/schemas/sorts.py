"""The shapes of fields: which contents a field can have."""

from oneheap.words.tokens import quoted


class IntSort:
    """Integers from low to high."""

    def __init__(self, low, high):
        self.low = low
        self.high = high

    def holds(self, value):
        """Return whether the shape holds the value."""
        if value is None:
            return True
        # Python counts True and False among the integers.
        return isinstance(value, int) and not isinstance(value, bool) and self.low <= value <= self.high

    def written(self):
        """Return the shape as text."""
        return f"int {self.low}..{self.high}"

    def __eq__(self, other):
        return isinstance(other, IntSort) and self.low == other.low and self.high == other.high


class TextSort:
    """Strings of at most `longest` characters; `without` is a character that none of them has, or None."""

    def __init__(self, longest, without=None):
        self.longest = longest
        self.without = without

    def holds(self, value):
        """Return whether the shape holds the value."""
        if value is None:
            return True
        if not isinstance(value, str) or len(value) > self.longest:
            return False
        return self.without is None or self.without not in value

    def written(self):
        """Return the shape as text."""
        if self.without is None:
            return f"text {self.longest}"
        return f"text {self.longest} without {quoted(self.without)}"

    def __eq__(self, other):
        return isinstance(other, TextSort) and self.longest == other.longest and self.without == other.without


class ChoiceSort:
    """The strings of a list."""

    def __init__(self, choices):
        self.choices = list(choices)

    def holds(self, value):
        """Return whether the shape holds the value."""
        return value is None or value in self.choices

    def written(self):
        """Return the shape as text."""
        return "one of " + ", ".join([quoted(choice) for choice in self.choices])

    def __eq__(self, other):
        return isinstance(other, ChoiceSort) and self.choices == other.choices


class RefSort:
    """A reference: the number of an object of one of some kinds."""

    def __init__(self, kinds, rule):
        self.kinds = list(kinds)
        self.rule = rule

    def holds(self, value):
        """Return whether the shape holds the value: it holds numbers of objects, but no values."""
        return value is None

    def written(self):
        """Return the shape as text."""
        text = "ref " + " or ".join(self.kinds)
        return text if self.rule == "clears" else f"{text} {self.rule}"

    def __eq__(self, other):
        return isinstance(other, RefSort) and self.kinds == other.kinds and self.rule == other.rule


class ListSort:
    """A list of numbers of objects of some kinds."""

    def __init__(self, kinds):
        self.kinds = list(kinds)

    def holds(self, value):
        """Return whether the shape holds the value: it holds lists of numbers, but no values."""
        return False

    def written(self):
        """Return the shape as text."""
        return "list " + " or ".join(self.kinds)

    def __eq__(self, other):
        return isinstance(other, ListSort) and self.kinds == other.kinds


def is_reference(shape):
    """Return whether a shape is a reference."""
    return isinstance(shape, RefSort)


def is_list(shape):
    """Return whether a shape is a list."""
    return isinstance(shape, ListSort)


def is_link(shape):
    """Return whether a shape is a reference or a list."""
    return is_reference(shape) or is_list(shape)


def blank(shape):
    """Return the content of a field for which nothing is given."""
    return [] if is_list(shape) else None
