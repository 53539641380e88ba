"""The younger schema: what comes of an elder one by the lines that are not late."""

from oneheap.schemas.schema import Field, Kind, Schema
from oneheap.schemas.sorts import ChoiceSort, ListSort, RefSort, is_list, is_reference
from oneheap.steps.lines import JoinKinds, NewKind, SplitKind


def line_taking(lines, kind):
    """Return the line that takes an elder kind, or None."""
    for line in lines:
        if kind in line.kinds_taken():
            return line
    return None


def line_having(lines, kind, field):
    """Return the line that has an elder field, or None."""
    for line in lines:
        if (kind, field) in line.fields_had():
            return line
    return None


def young_name(lines, kind):
    """Return the younger name of a kept kind."""
    for line in lines:
        if line.kind_renamed() == kind:
            return line.goal
    return kind


def young_names(lines, kind):
    """Return the names of the younger kinds that come of an elder one."""
    line = line_taking(lines, kind)
    return [young_name(lines, kind)] if line is None else line.kinds_coming()


def names_of_all(lines, kinds):
    """Return the names of what comes of some elder kinds, in order, each once."""
    found = []
    for kind in kinds:
        for name in young_names(lines, kind):
            if name not in found:
                found.append(name)
    return found


def younger_names(elder, lines):
    """Return the names of all kinds of the younger schema."""
    return names_of_all(lines, elder.names()) + [line.kind.name for line in lines if isinstance(line, NewKind)]


def younger_schema(elder, lines):
    """Return the younger schema, which shares no kind and no field with the elder one."""
    kinds = []
    for kind in elder.kinds:
        kinds.extend(kinds_from(elder, lines, kind))
    for line in lines:
        if isinstance(line, NewKind):
            kinds.append(kind_copy(line.kind))
    return Schema(kinds)


def kind_copy(kind):
    """Return an equal kind with fields of its own."""
    return Kind(kind.name, [Field(field.name, field.shape, field.needed) for field in kind.fields], kind.key_rows)


def kinds_from(elder, lines, kind):
    """Return the younger kinds that stand in the place of an elder one."""
    line = line_taking(lines, kind.name)
    if line is None:
        return [kept_kind(lines, kind)]
    if isinstance(line, SplitKind):
        return [branch_kind(lines, kind, line, name) for name in line.kinds_coming()]
    if isinstance(line, JoinKinds) and kind.name == first_joined(elder, line):
        return [joined_kind(elder, lines, line)]
    return []


def first_joined(elder, line):
    """Return the name of the kind of a join that stands first in the elder schema."""
    taken = line.kinds_taken()
    return [name for name in elder.names() if name in taken][0]


def kept_kind(lines, kind):
    """Return what comes of a kind that no line takes."""
    fields = []
    for field in kind.fields:
        fields.extend(fields_from(lines, kind, field))
    for line in lines:
        if line.kind_added_to() == kind.name:
            fields.append(Field(line.field, line.shape))
    rows = [young_row(lines, kind, row) for row in kind.key_rows]
    return Kind(young_name(lines, kind.name), fields, [row for row in rows if None not in row])


def fields_from(lines, kind, field):
    """Return the younger fields that stand in the place of an elder one of a kept kind."""
    untouched = young_field(lines, field)
    line = line_having(lines, kind.name, field.name)
    return [untouched] if line is None else line.young_fields(untouched)


def young_field(lines, field):
    """Return an elder field with the kinds of the younger schema in its shape."""
    return Field(field.name, young_shape(lines, field.shape), field.needed)


def young_shape(lines, shape):
    """Return an elder shape with the kinds of the younger schema in it."""
    if is_reference(shape):
        return RefSort(names_of_all(lines, shape.kinds), shape.rule)
    if is_list(shape):
        return ListSort(names_of_all(lines, shape.kinds))
    return shape


def young_row(lines, kind, row):
    """Return the younger names of the fields of a key; None stands among them if the key goes."""
    found = []
    for name in row:
        line = line_having(lines, kind.name, name)
        found.append(name if line is None else line.key_name(name))
    return found


def branch_kind(lines, kind, line, name):
    """Return one of the kinds into which a kind is split."""
    fields = [young_field(lines, field) for field in kind.fields if field.name != line.field]
    return Kind(name, fields, [row for row in kind.key_rows if line.field not in row])


def joined_kind(elder, lines, line):
    """Return the kind into which kinds are joined."""
    kinds = [elder.kind_of(branch.kind) for branch in line.branches]
    fields = [Field(line.field, ChoiceSort([branch.text for branch in line.branches]))]
    earlier = []
    for kind in kinds:
        for field in kind.fields:
            if field.name not in earlier:
                earlier.append(field.name)
                fields.append(joined_field(lines, kinds, field))
    return Kind(line.kind, fields, [])


def joined_field(lines, kinds, field):
    """Return a field of a joined kind: it is needed if it is in all of the kinds."""
    joined = young_field(lines, field)
    found = [kind.field_of(field.name) for kind in kinds]
    joined.needed = None not in found and all([one.needed for one in found])
    return joined
