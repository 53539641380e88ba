"""The ways to replace fields, gone there and back."""

from oneheap.steps.ways import FormsWay, JoinWay, SplitWay, TableWay
from oneheap.views.sources import nearest_source


def made_values(line, values):
    """Return the list of the made values that come of the values of the group."""
    way = line.way
    if isinstance(way, SplitWay):
        return halves(values[0], way.sign)
    if isinstance(way, JoinWay):
        return [whole(values, way.sign)]
    if None in values:
        return [None for _ in line.made_fields]
    if isinstance(way, TableWay):
        return told_values(line, values)
    return [form_value(form, line.group, values) for form in way.forms]


def told_values(line, values):
    """Return the made values of the table's row with the values of the group."""
    for row in line.way.rows:
        if row.given == values:
            return list(row.made)
    return [None for _ in line.made_fields]


def form_value(form, names, values):
    """Return the value of a form for the values of the fields with these names."""
    total = sum([amount for amount, name in form.terms if name is None])
    return total + sum([form.factor_of(name) * value for name, value in zip(names, values)])


def halves(text, sign):
    """Return what stands ahead of the first sign in a text, and what stands behind it (None without a sign)."""
    if text is None or sign not in text:
        return [text, None]
    place = text.find(sign)
    return [text[:place], text[place + 1:]]


def whole(values, sign):
    """Return two texts with the sign between them; of which one is None, the first one."""
    first, second = values
    return first if first is None or second is None else first + sign + second


def group_values(line, shapes, made, old):
    """Return the list of the values of the group to which made ones lead back.

    `shapes` are those of the group, `old` the values that the group had, or None.
    """
    found = values_back(line, shapes, made, old)
    if found is not None and all([shape.holds(value) for shape, value in zip(shapes, found)]):
        return found
    return [None for _ in line.group] if line.back is None else list(line.back)


def values_back(line, shapes, made, old):
    """Return the values that come out for the group, whether its shapes hold them or not; None if none do."""
    way = line.way
    if isinstance(way, SplitWay):
        return [whole(made, way.sign)]
    if isinstance(way, JoinWay):
        return halves(made[0], way.sign)
    if None in made:
        return [None for _ in line.group]
    if isinstance(way, FormsWay):
        return nearest_source(way.forms, line.group, [(shape.low, shape.high) for shape in shapes], made, old)
    return given_values(way.rows, made, old)


def given_values(rows, made, old):
    """Return the group's values of a row with the made values: the old ones if there is such a row, or the first."""
    found = [row.given for row in rows if row.made == made]
    if old in found:
        return list(old)
    return list(found[0]) if len(found) > 0 else None
