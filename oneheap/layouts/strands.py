"""What belongs together in all versions of a line: strands of fields, kin of kinds, and keys that all versions have."""

from oneheap.schemas.schema import key_constraint
from oneheap.schemas.sorts import is_reference


def strand_of(line, place, kind, field):
    """Return the name of the strand of a field: the version, the kind and the name of its eldest field."""
    while place > 0:
        tie = line.versions[place].step.elder_tie(kind, field)
        if tie is None:
            break
        kind, field = tie
        place -= 1
    return line.versions[place].number, kind, field


def kin_of(line, place, kind, other):
    """Return the kin of a kind of one version in another one, in the order of the schema there; None is the last."""
    found = [kind]
    for at in range(place, other):
        found = all_kin([None if one is None else line.versions[at + 1].step.young_kin(one) for one in found])
    for at in range(place, other, -1):
        found = all_kin([None if one is None else line.versions[at].step.elder_kin(one) for one in found])
    kin = [name for name in line.versions[other].schema.names() if name in found]
    return [*kin, None] if None in found else kin


def all_kin(rows):
    """Return all kin of several kinds; a kind that is not there, which has None instead of kin, stays so."""
    found = []
    for kin in rows:
        found.extend([None] if kin is None else kin)
    return found


class CarriedKey:
    """A key that all versions have: its name, and its kind and the names of its fields in each version."""

    def __init__(self, name, versions):
        self.name = name
        self.versions = [(kind, list(names)) for kind, names in versions]


def carried_keys(line):
    """Return the store keys, in the order of the eldest version's schema."""
    eldest = line.versions[0]
    found = []
    for kind in eldest.schema.kinds:
        for at, row in enumerate(kind.key_rows):
            versions = [] if has_reference(kind, row) else carried_versions(line, kind.name, row)
            if len(versions) == len(line.versions):
                found.append(CarriedKey(f"v{eldest.number}.{kind.name}.key{at + 1}", versions))
    return found


def has_reference(kind, row):
    """Return whether a field of a key is a reference."""
    return any([is_reference(kind.field_of(name).shape) for name in row])


def carried_versions(line, kind, row):
    """Return the pairs of the kind and the fields of a key in the versions, from the eldest on, that have it."""
    found = [(kind, row)]
    for version in line.versions[1:]:
        step = version.step
        if key_constraint(kind, row) not in [elder for elder, _ in step.carries()]:
            return found
        ties = [step.young_tie(kind, name) for name in row]
        kind, row = ties[0][0], [name for _, name in ties]
        found.append((kind, row))
    return found
