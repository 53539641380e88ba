"""What the lines of a step lose: contents that do not come back from the younger version."""

from math import gcd

from oneheap.schemas.sorts import is_link, is_list
from oneheap.steps.lines import ChangeField, GoneField, GoneKind, Replace, SplitKind
from oneheap.steps.ways import FormsWay, JoinWay, MOST_ROWS, SplitWay
from oneheap.views.fields import told_kind
from oneheap.views.least import least_outside, least_values
from oneheap.views.ways import group_values, made_values


class Loss:
    """A line that loses, the least contents that do not come back, and the other ones that come instead."""

    def __init__(self, line, one, other):
        self.line = line
        self.one = list(one)
        self.other = list(other)


def losing(step):
    """Return the list of the losses of a step, in the order of its lines."""
    losses = []
    for line in step.standing:
        contents = lost_contents(step, line)
        if contents is not None:
            losses.append(Loss(line.written(), contents[0], contents[1]))
    return losses


def lost_contents(step, line):
    """Return the pair of the least contents that do not come back and what comes instead, or None."""
    if isinstance(line, GoneKind):
        return [], []
    if isinstance(line, SplitKind):
        return lost_by_split(step.elder.field_of(line.kind, line.field), line)
    if isinstance(line, Replace):
        return lost_by_replacing([step.elder.field_of(line.kind, name) for name in line.group], line)
    if isinstance(line, GoneField):
        return lost_by_going(step.elder.field_of(line.kind, line.field), line)
    if isinstance(line, ChangeField):
        return lost_by_changing(step.elder.field_of(line.kind, line.field), line)
    return None


def lost_by_split(field, line):
    """Return what a split loses: None of the telling field, which comes back as the text of a branch."""
    if field.needed:
        return None
    kind = told_kind(line, None)
    return [None], [branch.text for branch in line.branches if branch.kind == kind]


def lost_by_going(field, line):
    """Return what a gone field loses: all but the value that it has at first."""
    if is_link(field.shape):
        return ([[1]], [[]]) if is_list(field.shape) else ([1], [None])
    if line.first is not None and not field.needed:
        return [None], [line.first]
    for value in least_values(field.shape, 2):
        if value != line.first:
            return [value], [line.first]
    return None


def lost_by_changing(field, line):
    """Return what a changed field loses: what the new shape does not hold, but for the value that comes instead."""
    if is_link(field.shape):
        return None
    instead = line.otherwise if field.shape.holds(line.otherwise) else line.back
    value = least_outside(field.shape, line.shape, instead)
    return None if value is None else ([value], [instead])


def lost_by_replacing(group, line):
    """Return what a replacement loses."""
    if isinstance(line.way, SplitWay):
        return None
    for contents in first_contents(group, line):
        values = group_values(line, [field.shape for field in group], made_values(line, contents), None)
        if values != contents:
            return contents, values
    return None


def first_contents(group, line):
    """Return allowed contents of a group, in order; if some do not come back, the least of these are among them."""
    if isinstance(line.way, FormsWay):
        return contents_with_none(group) + moved_contents(group, line.way.forms)
    if isinstance(line.way, JoinWay):
        return contents_with_none(group)
    return all_contents(group)


def contents_with_none(group):
    """Return the contents of a group of which one is None and the other one, if there is one, is the least."""
    least = [least_values(field.shape, 1)[0] for field in group]
    if len(group) == 1:
        return []
    found = [] if group[0].needed else [[None, least[1]]]
    return found if group[1].needed else [*found, [least[0], None]]


def moved_contents(group, forms):
    """Return the least integers of a group that others, less than they, are made like; none if there are none."""
    factors = [[form.factor_of(field.name) for field in group] for form in forms]
    moves = least_moves(factors)
    shapes = [field.shape for field in group]
    if moves is None or any([abs(move) > shape.high - shape.low for move, shape in zip(moves, shapes)]):
        return []
    return [[shape.low + max(move, 0) for move, shape in zip(moves, shapes)]]


def least_moves(factors):
    """Return how far integers move to the next ones of which all forms with these factors make the same, or None."""
    if len(factors[0]) == 1:
        return None if any([row[0] != 0 for row in factors]) else [1]
    first = factors[0]
    for row in factors:
        if first[0] * row[1] != first[1] * row[0]:
            return None
    return turned_moves([row for row in factors if row != [0, 0]][0])


def turned_moves(row):
    """Return the least moves of two integers, the first one upwards, that change nothing with these two factors."""
    divisor = gcd(row[0], row[1])
    moves = [row[1] // divisor, -(row[0] // divisor)]
    return moves if moves[0] > 0 else [-move for move in moves]


def all_contents(group):
    """Return all allowed contents of a group of integers and choices, in order."""
    found = [[]]
    for field in group:
        values = field_values(field)
        found = [[*contents, value] for contents in found for value in values]
    return found


def field_values(field):
    """Return all allowed values of a field that has integers or a choice, None ahead of all else."""
    values = least_values(field.shape, MOST_ROWS)
    return values if field.needed else [None, *values]
