"""Kinds and shapes out of tokens, with the places of their names."""

from oneheap.errors import Fault
from oneheap.schemas.schema import Field, Kind
from oneheap.schemas.sorts import ChoiceSort, IntSort, ListSort, RefSort, TextSort, is_list

LOWEST = -1000000000
HIGHEST = 1000000000
LONGEST_TEXT = 40
MOST_CHOICES = 8
RULES = ("clears", "refuses", "takes")


class FieldDraft:
    """A field as it was read: the token of its name, its shape, and the tokens of the kinds in it."""

    def __init__(self, name, shape, targets, needed):
        self.name = name
        self.shape = shape
        self.targets = targets
        self.needed = needed


class KindDraft:
    """A kind as it was read: the token of its name, drafts of fields, and keys as rows of tokens."""

    def __init__(self, name, fields, key_rows):
        self.name = name
        self.fields = fields
        self.key_rows = key_rows

    def built(self):
        """Return the kind without its places."""
        fields = [Field(field.name.text, field.shape, field.needed) for field in self.fields]
        return Kind(self.name.text, fields, [[name.text for name in row] for row in self.key_rows])


def read_kind(reader):
    """Read a kind, and return its draft."""
    reader.must("kind")
    name = reader.kind_name()
    reader.must("{")
    fields = []
    rows = []
    while not reader.passes("}"):
        if reader.passes("key"):
            rows.append(read_key(reader))
        else:
            fields.append(read_field(reader))
    return KindDraft(name, fields, rows)


def read_key(reader):
    """Read what stands behind the word key, and return the tokens of the names."""
    row = [reader.field_name()]
    while reader.passes(","):
        row.append(reader.field_name())
    reader.must(";")
    return row


def read_field(reader):
    """Read a field, and return its draft."""
    name = reader.field_name()
    reader.must(":")
    shape, targets = read_drawn_shape(reader)
    needed = read_needed(reader, shape)
    reader.must(";")
    return FieldDraft(name, shape, targets, needed)


def read_needed(reader, shape):
    """Read "not null" if it stands here, and return whether it does."""
    word = reader.here()
    if not reader.passes("not"):
        return False
    reader.must("null")
    if is_list(shape):
        raise Fault(word.place, "list not null")
    return True


def read_shape(reader):
    """Read a shape."""
    shape, _ = read_drawn_shape(reader)
    return shape


def read_drawn_shape(reader):
    """Read a shape, and return it with the tokens of the kinds that it names."""
    word = reader.here()
    if word.role != "word" or word.text not in SHAPES:
        raise Fault(word.place, "expected a sort")
    reader.take()
    read_one = SHAPES[word.text]
    return read_one(reader)


def read_integers(reader):
    """Read the bounds of integers."""
    place = reader.here().place
    low = reader.integer()
    reader.must("..")
    high = reader.integer()
    if low > high or low < LOWEST or high > HIGHEST:
        raise Fault(place, "bad bounds")
    return IntSort(low, high), []


def read_texts(reader):
    """Read the length of texts, and the sign that they are without."""
    number = reader.number_token()
    longest = int(number.text)
    if longest < 1 or longest > LONGEST_TEXT:
        raise Fault(number.place, "bad length")
    if not reader.passes("without"):
        return TextSort(longest), []
    sign = reader.text_token()
    if len(sign.text) != 1:
        raise Fault(sign.place, "bad sign")
    return TextSort(longest, sign.text), []


def read_choices(reader):
    """Read the texts of a choice."""
    return read_choice_texts(reader, False), []


def read_row_shape(reader):
    """Read a shape in a row of fields, where a comma behind a choice may belong to the row."""
    if reader.passes("one"):
        return read_choice_texts(reader, True)
    return read_shape(reader)


def read_choice_texts(reader, in_row):
    """Read what stands behind the first word of a choice."""
    reader.must("of")
    choices = [read_choice(reader, [])]
    while reader.stands(",") and not (in_row and reader.small_name_follows()):
        reader.take()
        choices.append(read_choice(reader, choices))
    return ChoiceSort(choices)


def read_choice(reader, earlier):
    """Read one text of a choice that has some already."""
    token = reader.text_token()
    if len(token.text) > LONGEST_TEXT:
        raise Fault(token.place, "bad length")
    if token.text in earlier:
        raise Fault(token.place, "choice twice")
    if len(earlier) == MOST_CHOICES:
        raise Fault(token.place, "too many choices")
    return token.text


def read_targets(reader):
    """Read the kinds of a reference or a list, and return their tokens."""
    targets = [reader.kind_name()]
    while reader.passes("or"):
        target = reader.kind_name()
        if target.text in token_texts(targets):
            raise Fault(target.place, "kind twice")
        targets.append(target)
    return targets


def token_texts(row):
    """Return the texts of tokens."""
    return [token.text for token in row]


def read_reference(reader):
    """Read the kinds of a reference, and its rule."""
    targets = read_targets(reader)
    rule = "clears"
    if reader.stands_one(RULES):
        rule = reader.take().text
    return RefSort(token_texts(targets), rule), targets


def read_list(reader):
    """Read the kinds of a list."""
    targets = read_targets(reader)
    return ListSort(token_texts(targets)), targets


SHAPES = {
    "int": read_integers,
    "text": read_texts,
    "one": read_choices,
    "ref": read_reference,
    "list": read_list,
}
