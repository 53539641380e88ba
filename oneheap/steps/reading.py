"""The lines of a step out of its text."""

from oneheap.errors import Fault
from oneheap.schemas.grammar import RULES, read_kind, read_row_shape, read_shape
from oneheap.schemas.schema import Field
from oneheap.steps.late import GoneKey, GoneNeeded, NewKey, NewNeeded, NewRule
from oneheap.steps.lines import (
    Branch, ChangeField, GoneField, GoneKind, JoinKinds, NewField, NewKind, RenameField, RenameKind, Replace, SplitKind,
)
from oneheap.steps.ways import Form, FormsWay, JoinWay, SplitWay, TableRow, TableWay
from oneheap.words.reader import RESERVED, TokenReader
from oneheap.words.tokens import tokens

STEP_SIGNS = ("{", "}", ":", ";", ",", "-", "..", "(", ")", "=", "->", "*", "+", ".")
LONGEST_STEP = 1000
MOST_LINES = 12


def read_lines(text):
    """Return pairs of the place and the line for each line of a step."""
    reader = TokenReader(tokens(text, STEP_SIGNS, LONGEST_STEP), RESERVED)
    found = []
    while not reader.at_end():
        place = reader.here().place
        if len(found) == MOST_LINES:
            raise Fault(place, "too many lines")
        found.append((place, read_line(reader)))
        reader.must(";")
    return found


def read_line(reader):
    """Read a line up to its semicolon."""
    word = reader.here()
    if word.role != "word" or word.text not in LINES:
        raise Fault(word.place, "expected a line")
    reader.take()
    read_one = LINES[word.text]
    return read_one(reader)


def read_several(reader, read_one):
    """Read one or more of a kind, with commas between them."""
    found = [read_one(reader)]
    while reader.passes(","):
        found.append(read_one(reader))
    return found


def read_enclosed(reader, read_one):
    """Read one or more of a kind, with commas between them, in parentheses."""
    reader.must("(")
    found = read_several(reader, read_one)
    reader.must(")")
    return found


def read_field_name(reader):
    """Read the name of a field."""
    return reader.field_name().text


def read_kind_name(reader):
    """Read the name of a kind."""
    return reader.kind_name().text


def read_value(reader):
    """Read a value."""
    if reader.passes("null"):
        return None
    if reader.here().role == "text":
        return reader.take().text
    if reader.here().role != "number" and not reader.stands("-"):
        raise Fault(reader.here().place, "expected a value")
    return reader.integer()


def read_value_behind(reader, word):
    """Read a value if a certain word or sign stands ahead of it."""
    return read_value(reader) if reader.passes(word) else None


def read_else_kind(reader):
    """Read the kind behind else, if that stands here."""
    return read_kind_name(reader) if reader.passes("else") else None


def read_dotted(reader):
    """Read the names of a kind and of its field."""
    kind = read_kind_name(reader)
    reader.must(".")
    return kind, read_field_name(reader)


def read_rename(reader):
    """Read what stands behind the word rename."""
    kind = read_kind_name(reader)
    if reader.passes("."):
        field = read_field_name(reader)
        reader.must("to")
        return RenameField(kind, field, read_field_name(reader))
    reader.must("to")
    return RenameKind(kind, read_kind_name(reader))


def read_change(reader):
    """Read what stands behind the word change."""
    kind, field = read_dotted(reader)
    reader.must(":")
    shape = read_shape(reader)
    otherwise = read_value_behind(reader, "else")
    return ChangeField(kind, field, shape, otherwise, read_value_behind(reader, "back"))


def read_new(reader):
    """Read what stands behind the word new."""
    if reader.stands("kind"):
        return NewKind(read_kind(reader))
    if reader.passes("key"):
        return NewKey(read_kind_name(reader), read_enclosed(reader, read_field_name))
    if reader.passes("not"):
        reader.must("null")
        kind, field = read_dotted(reader)
        return NewNeeded(kind, field)
    kind, field = read_dotted(reader)
    reader.must(":")
    shape = read_shape(reader)
    return NewField(kind, field, shape, read_value_behind(reader, "="))


def read_gone(reader):
    """Read what stands behind the word gone."""
    if reader.passes("kind"):
        return GoneKind(read_kind_name(reader))
    if reader.passes("key"):
        return GoneKey(read_kind_name(reader), read_enclosed(reader, read_field_name))
    if reader.passes("not"):
        reader.must("null")
        kind, field = read_dotted(reader)
        return GoneNeeded(kind, field)
    kind, field = read_dotted(reader)
    return GoneField(kind, field, read_value_behind(reader, "="))


def read_replace(reader):
    """Read what stands behind the word replace."""
    kind = read_kind_name(reader)
    group = read_enclosed(reader, read_field_name)
    reader.must("by")
    made = read_enclosed(reader, read_made_field)
    way = read_way(reader)
    back = read_values(reader) if reader.passes("back") else None
    return Replace(kind, group, made, way, back)


def read_made_field(reader):
    """Read a made field."""
    name = read_field_name(reader)
    reader.must(":")
    return Field(name, read_row_shape(reader))


def read_values(reader):
    """Read values in parentheses."""
    return read_enclosed(reader, read_value)


def read_way(reader):
    """Read the way in which a group is replaced."""
    if reader.passes("as"):
        return FormsWay(read_enclosed(reader, read_form))
    if reader.passes("table"):
        return TableWay(read_several(reader, read_row))
    if reader.passes("split"):
        return SplitWay(reader.text_token().text)
    if reader.passes("join"):
        return JoinWay(reader.text_token().text)
    raise Fault(reader.here().place, "expected a way")


def read_form(reader):
    """Read a form."""
    terms = [read_term(reader)]
    while reader.passes("+"):
        terms.append(read_term(reader))
    return Form(terms)


def read_term(reader):
    """Read a term of a form: a pair of an integer and the name of a field, or None."""
    if reader.here().role == "word":
        return 1, read_field_name(reader)
    factor = reader.integer()
    if reader.passes("*"):
        return factor, read_field_name(reader)
    return factor, None


def read_row(reader):
    """Read a row of a table."""
    given = read_values(reader)
    reader.must("->")
    return TableRow(given, read_values(reader))


def read_branch(reader):
    """Read a branch of a split or a join."""
    text = reader.text_token().text
    reader.must("as")
    return Branch(text, read_kind_name(reader))


def read_split(reader):
    """Read what stands behind the word split."""
    kind = read_kind_name(reader)
    reader.must("by")
    field = read_field_name(reader)
    reader.must("into")
    branches = read_several(reader, read_branch)
    return SplitKind(kind, field, branches, read_else_kind(reader))


def read_join(reader):
    """Read what stands behind the word join."""
    branches = read_several(reader, read_branch)
    reader.must("into")
    kind = read_kind_name(reader)
    reader.must("by")
    field = read_field_name(reader)
    return JoinKinds(branches, kind, field, read_else_kind(reader))


def read_deletes(reader):
    """Read what stands behind the word deletes."""
    kind, field = read_dotted(reader)
    if not reader.stands_one(RULES):
        raise Fault(reader.here().place, "expected a rule")
    return NewRule(kind, field, reader.take().text)


LINES = {
    "rename": read_rename,
    "change": read_change,
    "new": read_new,
    "gone": read_gone,
    "replace": read_replace,
    "split": read_split,
    "join": read_join,
    "deletes": read_deletes,
}
