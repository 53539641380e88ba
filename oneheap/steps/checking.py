"""The faults of the lines that are not late."""

from oneheap.errors import Fault
from oneheap.schemas.checking import check_kind
from oneheap.schemas.sorts import ChoiceSort, is_link, is_list, is_reference
from oneheap.steps.lines import ChangeField, GoneField, JoinKinds, NewField, NewKind, Replace, SplitKind
from oneheap.steps.younger import younger_names

NO_KIND = "no such kind"
NO_FIELD = "no such field"
HAS_LINE = "has a line already"
BAD_WAY = "bad way"
BAD_VALUE = "bad value"


def check_lines(elder, placed):
    """Check pairs of a place and a line that is not late, in order."""
    lines = [line for _, line in placed]
    names = younger_names(elder, lines)
    for at, (place, line) in enumerate(placed):
        reason = name_fault(elder, lines[:at], line)
        if reason is None:
            reason = shape_fault(names, line)
        if reason is None:
            reason = line_fault(elder, line)
        if reason is not None:
            raise Fault(place, reason)
        if isinstance(line, NewKind):
            check_kind(line.draft, names)


def name_fault(elder, earlier, line):
    """Return what is wrong with the elder names of a line, or None."""
    for kind in line.elder_kinds():
        if elder.kind_of(kind) is None:
            return NO_KIND
        # Whether a split kind has a line is asked only when its field is there.
        if isinstance(line, SplitKind) and elder.field_of(kind, line.field) is None:
            return NO_FIELD
        if kind_has_line(earlier, line, kind):
            return HAS_LINE
    for kind, field in line.fields_had():
        if elder.field_of(kind, field) is None:
            return NO_FIELD
        if field_has_line(earlier, kind, field):
            return HAS_LINE
    for kind, field in line.form_fields():
        if elder.field_of(kind, field) is None:
            return NO_FIELD
    return None


def kind_has_line(earlier, line, kind):
    """Return whether an earlier line forbids what a line does to a kind as a whole."""
    for other in earlier:
        taken = kind in other.kinds_taken()
        renamed = other.kind_renamed() == kind
        if line.kind_added_to() == kind and taken:
            return True
        if line.kind_renamed() == kind and (taken or renamed):
            return True
        if kind in line.kinds_taken() and (taken or renamed or touches_fields(other, kind)):
            return True
    return False


def touches_fields(line, kind):
    """Return whether a line has, or adds, a field of an elder kind."""
    return line.kind_added_to() == kind or any([had == kind for had, _ in line.fields_had()])


def field_has_line(earlier, kind, field):
    """Return whether an earlier line has a field, or takes its kind."""
    return any([(kind, field) in other.fields_had() or kind in other.kinds_taken() for other in earlier])


def shape_fault(names, line):
    """Return what is wrong with the kinds in the shapes of a line, or None."""
    for shape in line.shapes():
        if is_link(shape) and any([kind not in names for kind in shape.kinds]):
            return NO_KIND
    return None


def line_fault(elder, line):
    """Return what is wrong with a line whose names are right, or None."""
    if isinstance(line, ChangeField):
        return change_fault(elder.field_of(line.kind, line.field).shape, line)
    if isinstance(line, NewField):
        return value_fault(line.shape, line.first)
    if isinstance(line, GoneField):
        return value_fault(elder.field_of(line.kind, line.field).shape, line.first)
    if isinstance(line, Replace):
        return replace_fault(elder.kind_of(line.kind), line)
    if isinstance(line, SplitKind):
        return split_fault(elder.field_of(line.kind, line.field).shape, line)
    if isinstance(line, JoinKinds):
        return join_fault(elder, line)
    return None


def value_fault(shape, value):
    """Return what is wrong with a value that a shape should hold, or None."""
    return None if value is None or shape.holds(value) else BAD_VALUE


def change_fault(shape, line):
    """Return what is wrong with a change of a shape, or None."""
    if is_list(shape) != is_list(line.shape) or is_reference(shape) != is_reference(line.shape):
        return "no exchange"
    if value_fault(line.shape, line.otherwise) is not None:
        return BAD_VALUE
    return value_fault(shape, line.back)


def replace_fault(kind, line):
    """Return what is wrong with a replacement, or None."""
    if len(set(line.group)) != len(line.group):
        return BAD_WAY
    group = [kind.field_of(name) for name in line.group]
    if not line.way.is_sound(group, line.made_fields):
        return BAD_WAY
    if not line.way.is_full(group):
        return "bad table"
    if not line.way.is_held(group, line.made_fields):
        return "does not hold"
    if line.back is None:
        return None
    if len(line.back) != len(group):
        return BAD_VALUE
    held = [field.shape.holds(value) for field, value in zip(group, line.back)]
    return None if all(held) else BAD_VALUE


def split_fault(shape, line):
    """Return what is wrong with a split of a kind, or None."""
    if not isinstance(shape, ChoiceSort):
        return BAD_WAY
    if sorted([branch.text for branch in line.branches]) != sorted(shape.choices):
        return BAD_WAY
    return branches_fault(line)


def join_fault(elder, line):
    """Return what is wrong with a join of kinds, or None."""
    if len({branch.text for branch in line.branches}) != len(line.branches):
        return BAD_WAY
    if branches_fault(line) is not None:
        return BAD_WAY
    shapes = {}
    for branch in line.branches:
        for field in elder.kind_of(branch.kind).fields:
            if shapes.setdefault(field.name, field.shape) != field.shape:
                return BAD_WAY
    return None


def branches_fault(line):
    """Return what is wrong with the kinds of branches and the one behind else, or None."""
    kinds = [branch.kind for branch in line.branches]
    if len(set(kinds)) != len(kinds):
        return BAD_WAY
    return None if line.otherwise is None or line.otherwise in kinds else BAD_WAY
