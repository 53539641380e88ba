"""Schemas: kinds of objects, their fields and keys."""


class Field:
    """A field of a kind: a name and a shape; it can be needed."""

    def __init__(self, name, shape, needed=False):
        self.name = name
        self.shape = shape
        self.needed = needed

    def written(self):
        """Return the field as text."""
        end = " not null;" if self.needed else ";"
        return f"{self.name}: {self.shape.written()}{end}"


class Kind:
    """A kind of objects: a name, fields in order, and keys as lists of names."""

    def __init__(self, name, fields, key_rows):
        self.name = name
        self.fields = list(fields)
        self.key_rows = [list(row) for row in key_rows]

    def field_of(self, name):
        """Return the field of this name, or None."""
        for field in self.fields:
            if field.name == name:
                return field
        return None

    def names(self):
        """Return the names of the fields in order."""
        return [field.name for field in self.fields]

    def written(self):
        """Return the kind as text."""
        fields = [field.written() for field in self.fields]
        rows = ["key " + ", ".join(row) + ";" for row in self.key_rows]
        return " ".join(["kind", self.name, "{", *fields, *rows, "}"])


class Schema:
    """Kinds of objects, in order."""

    def __init__(self, kinds):
        self.kinds = list(kinds)

    def kind_of(self, name):
        """Return the kind of this name, or None."""
        for kind in self.kinds:
            if kind.name == name:
                return kind
        return None

    def field_of(self, kind, name):
        """Return the field of this name of the kind of the name `kind`, or None."""
        found = self.kind_of(kind)
        return None if found is None else found.field_of(name)

    def names(self):
        """Return the names of the kinds in order."""
        return [kind.name for kind in self.kinds]

    def written(self):
        """Return the schema as text."""
        return " ".join([kind.written() for kind in self.kinds])


def constraints_of(kind):
    """Return the constraints of a kind: those of needed fields, then those of keys."""
    needed = [needed_constraint(kind.name, field.name) for field in kind.fields if field.needed]
    return needed + [key_constraint(kind.name, row) for row in kind.key_rows]


def needed_constraint(kind, field):
    """Return the constraint of a needed field."""
    return f"{kind}.{field} needed"


def key_constraint(kind, row):
    """Return the constraint of a key."""
    return f"{kind} key " + ", ".join(row)
