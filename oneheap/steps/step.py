"""Steps from a schema to the next one."""

from oneheap.errors import Fault
from oneheap.schemas.reading import LONGEST_SCHEMA, read_schema, write_schema
from oneheap.schemas.schema import key_constraint, needed_constraint
from oneheap.schemas.sorts import is_link
from oneheap.steps.checking import check_lines
from oneheap.steps.lines import RenameField
from oneheap.steps.reading import LONGEST_STEP, read_lines
from oneheap.steps.younger import line_having, line_taking, young_name, young_names, younger_schema


class Step:
    """What leads from an elder schema to a younger one."""

    def __init__(self, lines, elder, younger):
        self.lines = list(lines)
        self.elder = elder
        self.younger = younger
        self.standing = [line for line in self.lines if not line.is_late()]

    def written(self):
        """Return the step as text."""
        return " ".join([line.written() for line in self.lines])

    def young_tie(self, kind, field):
        """Return the pair of the younger kind and field to which an elder one is tied, or None."""
        if self.elder.field_of(kind, field) is None or line_taking(self.standing, kind) is not None:
            return None
        line = line_having(self.standing, kind, field)
        if line is None:
            return young_name(self.standing, kind), field
        return (young_name(self.standing, kind), line.goal) if isinstance(line, RenameField) else None

    def elder_tie(self, kind, field):
        """Return the pair of the elder kind and field to which a younger one is tied, or None."""
        for elder in self.elder.kinds:
            for name in elder.names():
                if self.young_tie(elder.name, name) == (kind, field):
                    return elder.name, name
        return None

    def young_kin(self, kind):
        """Return the list of the kin of an elder kind: younger kinds, or None alone."""
        if self.elder.kind_of(kind) is None:
            return [None]
        found = young_names(self.standing, kind)
        return found if len(found) > 0 else [None]

    def elder_kin(self, kind):
        """Return the list of the kin of a younger kind: elder kinds, or None alone."""
        for elder in self.elder.names():
            if kind in young_names(self.standing, elder):
                line = line_taking(self.standing, elder)
                # The branches of a join tell the order, not the elder schema.
                return [elder] if line is None else line.kinds_taken()
        return [None]

    def carries(self):
        """Return the pairs of an elder constraint and the younger one to which it is carried."""
        found = []
        for kind in self.elder.kinds:
            name = young_name(self.standing, kind.name)
            for field in kind.fields:
                row = self.carried_row(kind, [field.name])
                if field.needed and row is not None:
                    found.append((needed_constraint(kind.name, field.name), needed_constraint(name, row[0])))
            for key_row in kind.key_rows:
                row = self.carried_row(kind, key_row)
                if row is not None:
                    found.append((key_constraint(kind.name, key_row), key_constraint(name, row)))
        gone = [line.constraint_gone() for line in self.lines if line.is_late()]
        return [(elder, younger) for elder, younger in found if younger not in gone]

    def carried_row(self, kind, names):
        """Return the younger names of the fields of a constraint, or None if they do not carry it."""
        row = []
        for name in names:
            tie = self.young_tie(kind.name, name)
            if tie is None or not self.keeps_targets(kind.field_of(name).shape):
                return None
            row.append(tie[1])
        return row

    def keeps_targets(self, shape):
        """Return whether all kinds that an elder shape names are kept."""
        if not is_link(shape):
            return True
        return all([line_taking(self.standing, target) is None for target in shape.kinds])


def read_step(schema, text):
    """Return the step of a text, from an elder schema."""
    placed = read_lines(text)
    standing = [(place, line) for place, line in placed if not line.is_late()]
    check_lines(schema, standing)
    younger = younger_schema(schema, [line for _, line in standing])
    for place, line in placed:
        if line.is_late():
            apply_late(younger, place, line)
    step = Step([line for _, line in placed], schema, younger)
    check_whole(step)
    return step


def write_step(step):
    """Return a step as text."""
    return step.written()


def apply_late(younger, place, line):
    """Apply a late line to the younger schema."""
    reason = line.fault_in(younger)
    if reason is not None:
        raise Fault(place, reason)
    line.apply_to(younger)


def check_whole(step):
    """Check what only the whole younger schema and the whole step show."""
    shapes = [field.shape for kind in step.younger.kinds for field in kind.fields]
    if len(step.younger.kinds) == 0 or any([is_link(shape) and len(shape.kinds) == 0 for shape in shapes]):
        raise Fault(0, "no kind is left")
    text = write_schema(step.younger)
    if len(text) > LONGEST_SCHEMA:
        raise Fault(0, "too long when written")
    try:
        read_schema(text)
    except Fault as fault:
        raise Fault(0, fault.reason) from None
    if len(step.written()) > LONGEST_STEP:
        raise Fault(0, "too long when written")
