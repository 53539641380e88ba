"""The late lines of a step: what they change of the younger schema."""

from oneheap.schemas.schema import key_constraint, needed_constraint
from oneheap.schemas.sorts import RefSort, is_list, is_reference
from oneheap.steps.lines import Line


class LateLine(Line):
    """A line that is applied to the younger schema, behind the others."""

    def is_late(self):
        """Return whether the line is applied to the younger schema, behind the others."""
        return True

    def constraint_gone(self):
        """Return the constraint that the line takes away, or None."""
        return None


class KeyLine(LateLine):
    """A line about a key."""

    def __init__(self, kind, row):
        self.kind = kind
        self.row = list(row)

    def key_text(self):
        """Return the kind and the names of the key's fields as text."""
        return f"{self.kind} (" + ", ".join(self.row) + ")"


class NewKey(KeyLine):
    """A kind gets a key."""

    def written(self):
        """Return the line as text."""
        return f"new key {self.key_text()};"

    def fault_in(self, schema):
        """Return why the line cannot be applied to a schema, or None."""
        kind = schema.kind_of(self.kind)
        if kind is None:
            return "no such kind"
        for name in self.row:
            reason = self.name_fault(kind, name)
            if reason is not None:
                return reason
        return None

    def name_fault(self, kind, name):
        """Return why a field cannot stand in the key, or None."""
        field = kind.field_of(name)
        if field is None:
            return "no such field"
        if is_list(field.shape):
            return "list in a key"
        if self.row.count(name) > 1:
            return "field twice"
        if any([name in row for row in kind.key_rows]):
            return "field in two keys"
        return None

    def apply_to(self, schema):
        """Change the schema as the line tells."""
        schema.kind_of(self.kind).key_rows.append(list(self.row))


class GoneKey(KeyLine):
    """A kind loses a key."""

    def written(self):
        """Return the line as text."""
        return f"gone key {self.key_text()};"

    def constraint_gone(self):
        """Return the constraint that the line takes away, or None."""
        return key_constraint(self.kind, self.row)

    def fault_in(self, schema):
        """Return why the line cannot be applied to a schema, or None."""
        kind = schema.kind_of(self.kind)
        if kind is None:
            return "no such kind"
        return None if self.row in kind.key_rows else "no such key"

    def apply_to(self, schema):
        """Change the schema as the line tells."""
        schema.kind_of(self.kind).key_rows.remove(self.row)


class NeededLine(LateLine):
    """A line that makes a field needed, or no longer."""

    def __init__(self, kind, field):
        self.kind = kind
        self.field = field

    def needed_fault(self, schema, needed):
        """Return why the field cannot become needed, or no longer needed, or None."""
        if schema.kind_of(self.kind) is None:
            return "no such kind"
        field = schema.field_of(self.kind, self.field)
        if field is None:
            return "no such field"
        if is_list(field.shape):
            return "list not null"
        return "nothing changes" if field.needed == needed else None


class NewNeeded(NeededLine):
    """A field becomes needed."""

    def written(self):
        """Return the line as text."""
        return f"new not null {self.kind}.{self.field};"

    def fault_in(self, schema):
        """Return why the line cannot be applied to a schema, or None."""
        return self.needed_fault(schema, True)

    def apply_to(self, schema):
        """Change the schema as the line tells."""
        field = schema.field_of(self.kind, self.field)
        field.needed = True


class GoneNeeded(NeededLine):
    """A field is no longer needed."""

    def written(self):
        """Return the line as text."""
        return f"gone not null {self.kind}.{self.field};"

    def constraint_gone(self):
        """Return the constraint that the line takes away, or None."""
        return needed_constraint(self.kind, self.field)

    def fault_in(self, schema):
        """Return why the line cannot be applied to a schema, or None."""
        return self.needed_fault(schema, False)

    def apply_to(self, schema):
        """Change the schema as the line tells."""
        field = schema.field_of(self.kind, self.field)
        field.needed = False


class NewRule(LateLine):
    """A reference gets a rule for deletions."""

    def __init__(self, kind, field, rule):
        self.kind = kind
        self.field = field
        self.rule = rule

    def written(self):
        """Return the line as text."""
        return f"deletes {self.kind}.{self.field} {self.rule};"

    def fault_in(self, schema):
        """Return why the line cannot be applied to a schema, or None."""
        if schema.kind_of(self.kind) is None:
            return "no such kind"
        field = schema.field_of(self.kind, self.field)
        if field is None:
            return "no such field"
        return None if is_reference(field.shape) else "no reference"

    def apply_to(self, schema):
        """Change the schema as the line tells."""
        field = schema.field_of(self.kind, self.field)
        field.shape = RefSort(field.shape.kinds, self.rule)
