"""Plans of tables: what the columns of the tables of one kind hold."""

from oneheap.schemas.sorts import is_list, is_reference
from oneheap.store.tables import Column


class KindColumn:
    """A column that tells the kind of the object in the version with index `place`."""

    def __init__(self, name, place):
        self.name = name
        self.place = place
        self.strand = None

    def column(self, targets):
        """Return the column of the table."""
        return Column(self.name, "value")

    def cell(self, kinds, contents):
        """Return the cell for an object with these kinds in the versions and these contents of strands."""
        return kinds[self.place]


class StrandColumn:
    """A column that holds the content of the fields of a strand, which have the shape of the given field."""

    def __init__(self, name, strand, shape):
        self.name = name
        self.strand = strand
        self.shape = shape

    def column(self, targets):
        """Return the column of the table."""
        if is_list(self.shape):
            return Column(self.name, "links", targets)
        return Column(self.name, "reference", targets) if is_reference(self.shape) else Column(self.name, "value")

    def cell(self, kinds, contents):
        """Return the cell for an object with these kinds in the versions and these contents of strands."""
        return contents.get(self.strand, [] if is_list(self.shape) else None)


def all_strands(line):
    """Return the dict from the place of a version, a kind and a field to the strand of the field."""
    strands = {}
    for place, version in enumerate(line.versions):
        for kind in version.schema.kinds:
            for name in kind.names():
                strands.setdefault((place, kind.name, name), (version.number, kind.name, name))
                if place + 1 < len(line.versions):
                    tie = line.versions[place + 1].step.young_tie(kind.name, name)
                    if tie is not None:
                        strands[(place + 1, tie[0], tie[1])] = strands[(place, kind.name, name)]
    return strands


def kind_columns(line, strands, place, kind, kin, key_names):
    """Return the columns of a kind of the version with index `place`, those of its store keys ahead of the others.

    `kin` is a list with, for each version, the kin of the kind there.
    """
    names = key_names + [name for name in kind.names() if name not in key_names]
    columns = [StrandColumn(name, strands[(place, kind.name, name)], kind.field_of(name).shape) for name in names]
    for other, version in enumerate(line.versions):
        if len(kin[other]) > 1:
            columns.append(KindColumn(f"v{version.number}.kind", other))
        for name in kin[other]:
            if name is not None:
                add_kin(columns, strands, other, version, version.schema.kind_of(name))
    return columns


def add_kin(columns, strands, place, version, kind):
    """Add the columns of the fields of a kind in another version whose strands have none yet."""
    known = [column.strand for column in columns]
    for field in kind.fields:
        strand = strands[(place, kind.name, field.name)]
        if strand not in known:
            columns.append(StrandColumn(f"v{version.number}.{kind.name}.{field.name}", strand, field.shape))
