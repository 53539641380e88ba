"""The lines of a step that are not late: what they touch, and what comes of it."""

from oneheap.schemas.schema import Field
from oneheap.steps.ways import value_text, values_text


class Line:
    """A line that touches nothing; the lines below tell what they touch of the elder schema."""

    def is_late(self):
        """Return whether the line is applied to the younger schema, behind the others."""
        return False

    def elder_kinds(self):
        """Return the names of the elder kinds that the line names, from left to right."""
        return []

    def fields_had(self):
        """Return the pairs of an elder kind and a field that the line has, from left to right."""
        return []

    def form_fields(self):
        """Return the pairs of an elder kind and a field that forms of the line name."""
        return []

    def kinds_taken(self):
        """Return the names of the elder kinds that the line takes."""
        return []

    def kind_renamed(self):
        """Return the name of the elder kind that the line renames, or None."""
        return None

    def kind_added_to(self):
        """Return the name of the elder kind to which the line adds a field, or None."""
        return None

    def kinds_coming(self):
        """Return the names of the younger kinds that come of each kind that the line takes."""
        return []

    def shapes(self):
        """Return the shapes that stand in the line, a new kind's apart."""
        return []


class FieldLine(Line):
    """A line that has one field of the elder schema."""

    def __init__(self, kind, field):
        self.kind = kind
        self.field = field

    def elder_kinds(self):
        """Return the names of the elder kinds that the line names, from left to right."""
        return [self.kind]

    def fields_had(self):
        """Return the pairs of an elder kind and a field that the line has, from left to right."""
        return [(self.kind, self.field)]


class RenameKind(Line):
    """A kind gets a new name."""

    def __init__(self, kind, goal):
        self.kind = kind
        self.goal = goal

    def written(self):
        """Return the line as text."""
        return f"rename {self.kind} to {self.goal};"

    def elder_kinds(self):
        """Return the names of the elder kinds that the line names, from left to right."""
        return [self.kind]

    def kind_renamed(self):
        """Return the name of the elder kind that the line renames, or None."""
        return self.kind


class RenameField(FieldLine):
    """A field gets a new name."""

    def __init__(self, kind, field, goal):
        FieldLine.__init__(self, kind, field)
        self.goal = goal

    def written(self):
        """Return the line as text."""
        return f"rename {self.kind}.{self.field} to {self.goal};"

    def young_fields(self, field):
        """Return the younger fields in the place of an elder one."""
        return [Field(self.goal, field.shape, field.needed)]

    def key_name(self, name):
        """Return the younger name of a field in a key, or None if the key goes."""
        return self.goal


class ChangeField(FieldLine):
    """A field gets a new shape."""

    def __init__(self, kind, field, shape, otherwise, back):
        FieldLine.__init__(self, kind, field)
        self.shape = shape
        self.otherwise = otherwise
        self.back = back

    def written(self):
        """Return the line as text."""
        text = f"change {self.kind}.{self.field}: {self.shape.written()}"
        return text + value_part("else", self.otherwise) + value_part("back", self.back) + ";"

    def young_fields(self, field):
        """Return the younger fields in the place of an elder one."""
        return [Field(field.name, self.shape, field.needed)]

    def key_name(self, name):
        """Return the younger name of a field in a key, or None if the key goes."""
        return name

    def shapes(self):
        """Return the shapes that stand in the line, a new kind's apart."""
        return [self.shape]


class NewField(Line):
    """A kind gets a field."""

    def __init__(self, kind, field, shape, first):
        self.kind = kind
        self.field = field
        self.shape = shape
        self.first = first

    def written(self):
        """Return the line as text."""
        return f"new {self.kind}.{self.field}: {self.shape.written()}{value_part('=', self.first)};"

    def elder_kinds(self):
        """Return the names of the elder kinds that the line names, from left to right."""
        return [self.kind]

    def kind_added_to(self):
        """Return the name of the elder kind to which the line adds a field, or None."""
        return self.kind

    def shapes(self):
        """Return the shapes that stand in the line, a new kind's apart."""
        return [self.shape]


class GoneField(FieldLine):
    """A field goes."""

    def __init__(self, kind, field, first):
        FieldLine.__init__(self, kind, field)
        self.first = first

    def written(self):
        """Return the line as text."""
        return f"gone {self.kind}.{self.field}{value_part('=', self.first)};"

    def young_fields(self, field):
        """Return the younger fields in the place of an elder one."""
        return []

    def key_name(self, name):
        """Return the younger name of a field in a key, or None if the key goes."""
        return None


class Replace(Line):
    """A group of fields is replaced by made fields."""

    def __init__(self, kind, group, made_fields, way, back):
        self.kind = kind
        self.group = list(group)
        self.made_fields = list(made_fields)
        self.way = way
        self.back = back

    def written(self):
        """Return the line as text."""
        group = ", ".join(self.group)
        made = ", ".join([f"{field.name}: {field.shape.written()}" for field in self.made_fields])
        back = "" if self.back is None else " back " + values_text(self.back)
        return f"replace {self.kind} ({group}) by ({made}) {self.way.written()}{back};"

    def elder_kinds(self):
        """Return the names of the elder kinds that the line names, from left to right."""
        return [self.kind]

    def fields_had(self):
        """Return the pairs of an elder kind and a field that the line has, from left to right."""
        return [(self.kind, name) for name in self.group]

    def form_fields(self):
        """Return the pairs of an elder kind and a field that forms of the line name."""
        return [(self.kind, name) for name in self.way.field_names()]

    def young_fields(self, field):
        """Return the younger fields in the place of an elder one."""
        if field.name != self.group[0]:
            return []
        return [Field(made.name, made.shape) for made in self.made_fields]

    def key_name(self, name):
        """Return the younger name of a field in a key, or None if the key goes."""
        return None

    def shapes(self):
        """Return the shapes that stand in the line, a new kind's apart."""
        return [field.shape for field in self.made_fields]


class Branch:
    """A branch of a split or a join: a text that tells a kind."""

    def __init__(self, text, kind):
        self.text = text
        self.kind = kind

    def written(self):
        """Return the branch as text."""
        return f"{value_text(self.text)} as {self.kind}"


class SplitKind(Line):
    """A kind is split by one of its fields."""

    def __init__(self, kind, field, branches, otherwise):
        self.kind = kind
        self.field = field
        self.branches = list(branches)
        self.otherwise = otherwise

    def written(self):
        """Return the line as text."""
        return f"split {self.kind} by {self.field} into {branches_text(self.branches)}{else_kind(self.otherwise)};"

    def elder_kinds(self):
        """Return the names of the elder kinds that the line names, from left to right."""
        return [self.kind]

    def kinds_taken(self):
        """Return the names of the elder kinds that the line takes."""
        return [self.kind]

    def kinds_coming(self):
        """Return the names of the younger kinds that come of each kind that the line takes."""
        return [branch.kind for branch in self.branches]


class JoinKinds(Line):
    """Several kinds become one."""

    def __init__(self, branches, kind, field, otherwise):
        self.branches = list(branches)
        self.kind = kind
        self.field = field
        self.otherwise = otherwise

    def written(self):
        """Return the line as text."""
        text = f"join {branches_text(self.branches)} into {self.kind} by {self.field}"
        return f"{text}{else_kind(self.otherwise)};"

    def elder_kinds(self):
        """Return the names of the elder kinds that the line names, from left to right."""
        return [branch.kind for branch in self.branches]

    def kinds_taken(self):
        """Return the names of the elder kinds that the line takes."""
        return self.elder_kinds()

    def kinds_coming(self):
        """Return the names of the younger kinds that come of each kind that the line takes."""
        return [self.kind]


class NewKind(Line):
    """A kind that comes of no elder one."""

    def __init__(self, draft):
        self.draft = draft
        self.kind = draft.built()

    def written(self):
        """Return the line as text."""
        return f"new {self.kind.written()};"


class GoneKind(Line):
    """A kind goes."""

    def __init__(self, kind):
        self.kind = kind

    def written(self):
        """Return the line as text."""
        return f"gone kind {self.kind};"

    def elder_kinds(self):
        """Return the names of the elder kinds that the line names, from left to right."""
        return [self.kind]

    def kinds_taken(self):
        """Return the names of the elder kinds that the line takes."""
        return [self.kind]


def value_part(word, value):
    """Return a word and the value behind it as they are written, nothing for None."""
    return "" if value is None else f" {word} {value_text(value)}"


def branches_text(branches):
    """Return branches as text."""
    return ", ".join([branch.written() for branch in branches])


def else_kind(kind):
    """Return the kind behind else as it is written, nothing for None."""
    return "" if kind is None else f" else {kind}"
