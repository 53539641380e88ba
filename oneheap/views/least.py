"""The least values of plain shapes: lesser integers, earlier choices, and shorter texts come first."""

from oneheap.schemas.sorts import ChoiceSort, IntSort, TextSort

# All characters that texts may have, by their codes.
SIGNS = " !\"#$&'()*+,-./0123456789:;<=>?@ABCDEFGHIJKLMNOPQRSTUVWXYZ[\\]^_`abcdefghijklmnopqrstuvwxyz{|}~"
MOST_CHOICES = 8


def least_values(shape, many):
    """Return the least values beside None that a shape holds, in order: so many, or all if there are less."""
    if isinstance(shape, IntSort):
        return list(range(shape.low, min(shape.high, shape.low + many - 1) + 1))
    if isinstance(shape, ChoiceSort):
        return shape.choices[:many]
    return ["", *signs_of(shape)][:many]


def signs_of(shape):
    """Return the list of the characters that the texts of a shape can have, by their codes."""
    return [sign for sign in SIGNS if sign != shape.without]


def least_outside(shape, other, barred):
    """Return the least value beside None and the barred one that a shape holds and another one does not, or None."""
    for value in outer_values(shape, other):
        if shape.holds(value) and not other.holds(value) and value != barred:
            return value
    return None


def outer_values(shape, other):
    """Return values in order; the two least ones that the shape holds, and the other does not, are among them."""
    if isinstance(shape, ChoiceSort):
        return shape.choices
    if isinstance(shape, IntSort):
        beyond = [other.high + 1, other.high + 2] if isinstance(other, IntSort) else []
        return [shape.low, shape.low + 1, *beyond]
    if isinstance(other, TextSort):
        return outer_texts(shape, other)
    return least_values(shape, MOST_CHOICES + 2)


def outer_texts(shape, other):
    """Return texts of all lengths, in order, as outer_values of two shapes of texts.

    Of each length the two least texts, and the two least ones with one certain sign, end in one or two of the two
    least signs and this one; all signs ahead of these are the least one.
    """
    signs = signs_of(shape)
    ends = signs[:2]
    if other.without is not None and other.without not in ends:
        ends.append(other.without)
    found = ["", *ends]
    for length in range(2, shape.longest + 1):
        for first in ends:
            for second in ends:
                found.append(signs[0] * (length - 2) + first + second)
    return found
