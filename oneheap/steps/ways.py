"""The ways to replace a group of fields by made ones."""

from oneheap.schemas.sorts import ChoiceSort, IntSort, TextSort, is_link
from oneheap.words.tokens import quoted

MOST_ROWS = 64


def value_text(value):
    """Return a value as it stands in a step."""
    if value is None:
        return "null"
    return quoted(value) if isinstance(value, str) else str(value)


def values_text(values):
    """Return values in parentheses."""
    return "(" + ", ".join([value_text(value) for value in values]) + ")"


class Form:
    """A sum of integers and of fields with integer factors."""

    def __init__(self, terms):
        self.terms = [(factor, name) for factor, name in terms]

    def written(self):
        """Return the form as text."""
        return " + ".join([term_text(factor, name) for factor, name in self.terms])

    def field_names(self):
        """Return the names of the fields in the terms, in order."""
        return [name for _, name in self.terms if name is not None]

    def factor_of(self, field):
        """Return the sum of the factors of a field."""
        return sum([factor for factor, name in self.terms if name == field])

    def outer_values(self, group):
        """Return the least and the greatest value for values of the group within their bounds."""
        least = greatest = sum([amount for amount, name in self.terms if name is None])
        for field in group:
            factor = self.factor_of(field.name)
            ends = (factor * field.shape.low, factor * field.shape.high)
            least += min(ends)
            greatest += max(ends)
        return least, greatest


def term_text(factor, name):
    """Return one term of a form as text."""
    if name is None:
        return str(factor)
    return name if factor == 1 else f"{factor} * {name}"


def are_integers(fields):
    """Return whether all fields hold integers."""
    return all([isinstance(field.shape, IntSort) for field in fields])


class Way:
    """What holds of a way unless it tells otherwise."""

    def field_names(self):
        """Return the names of the fields in forms of the way, in order."""
        return []

    def is_full(self, group):
        """Return whether the way tells something for each combination of the group."""
        return True


class FormsWay(Way):
    """Each made integer is the value of a form of the group."""

    def __init__(self, forms):
        self.forms = list(forms)

    def written(self):
        """Return the way as text."""
        return "as (" + ", ".join([form.written() for form in self.forms]) + ")"

    def field_names(self):
        """Return the names of the fields in forms of the way, in order."""
        return [name for form in self.forms for name in form.field_names()]

    def is_sound(self, group, made):
        """Return whether the way can go from these fields to those."""
        if len(group) > 2 or len(made) > 2 or len(made) != len(self.forms):
            return False
        if not are_integers(group) or not are_integers(made):
            return False
        names = [field.name for field in group]
        if any([name not in names for name in self.field_names()]):
            return False
        return len(group) == 1 or all([self.counts(name) for name in names])

    def counts(self, name):
        """Return whether one of the forms depends on a field."""
        return any([form.factor_of(name) != 0 for form in self.forms])

    def is_held(self, group, made):
        """Return whether the made fields hold all that the way makes."""
        for form, field in zip(self.forms, made):
            least, greatest = form.outer_values(group)
            if least < field.shape.low or greatest > field.shape.high:
                return False
        return True


class TableRow:
    """A row of a table: values of the group, and the values that are made of them."""

    def __init__(self, given, made):
        self.given = list(given)
        self.made = list(made)

    def written(self):
        """Return the row as text."""
        return f"{values_text(self.given)} -> {values_text(self.made)}"


class TableWay(Way):
    """Each combination of the group has a row with the made values."""

    def __init__(self, rows):
        self.rows = list(rows)

    def written(self):
        """Return the way as text."""
        return "table " + ", ".join([row.written() for row in self.rows])

    def is_sound(self, group, made):
        """Return whether the way can go from these fields to those."""
        if any([is_link(field.shape) for field in made]):
            return False
        return all([isinstance(field.shape, IntSort) or isinstance(field.shape, ChoiceSort) for field in group])

    def is_full(self, group):
        """Return whether each combination of the group has exactly one row, and there are no other rows."""
        many = 1
        for field in group:
            many = many * value_count(field.shape)
        if many > MOST_ROWS or many != len(self.rows):
            return False
        if not all([are_held(group, row.given) for row in self.rows]):
            return False
        return len({tuple(row.given) for row in self.rows}) == many

    def is_held(self, group, made):
        """Return whether the made fields hold all that the way makes."""
        return all([are_held(made, row.made) for row in self.rows])


def value_count(shape):
    """Return how many values beside None integers or a choice have."""
    if isinstance(shape, ChoiceSort):
        return len(shape.choices)
    return shape.high - shape.low + 1


def are_held(fields, values):
    """Return whether there is a value for each field, none is None, and the fields hold them."""
    if len(values) != len(fields) or None in values:
        return False
    return all([field.shape.holds(value) for field, value in zip(fields, values)])


class SplitWay(Way):
    """A text is split at its first sign."""

    def __init__(self, sign):
        self.sign = sign

    def written(self):
        """Return the way as text."""
        return f"split {quoted(self.sign)}"

    def is_sound(self, group, made):
        """Return whether the way can go from these fields to those."""
        return len(self.sign) == 1 and are_halves(made, self.sign) and is_whole(group)

    def is_held(self, group, made):
        """Return whether the made fields hold all that the way makes."""
        whole = group[0].shape.longest
        return made[0].shape.longest >= whole and made[1].shape.longest >= whole - 1


class JoinWay(Way):
    """Two texts are joined with the sign between them."""

    def __init__(self, sign):
        self.sign = sign

    def written(self):
        """Return the way as text."""
        return f"join {quoted(self.sign)}"

    def is_sound(self, group, made):
        """Return whether the way can go from these fields to those."""
        return len(self.sign) == 1 and are_halves(group, self.sign) and is_whole(made)

    def is_held(self, group, made):
        """Return whether the made fields hold all that the way makes."""
        return made[0].shape.longest >= group[0].shape.longest + group[1].shape.longest + 1


def are_halves(fields, sign):
    """Return whether the fields are the two texts that stand around a sign."""
    if len(fields) != 2 or not are_texts(fields):
        return False
    return fields[0].shape.without == sign and fields[1].shape.without is None


def is_whole(fields):
    """Return whether the fields are one text that may have every sign."""
    return len(fields) == 1 and are_texts(fields) and fields[0].shape.without is None


def are_texts(fields):
    """Return whether all fields hold texts (choices are none)."""
    return all([isinstance(field.shape, TextSort) for field in fields])
