"""Layouts: the tables in which the objects of all versions of a line can lie."""

from oneheap.heap.heap import Heap
from oneheap.heap.line import Line
from oneheap.layouts.plans import all_strands, kind_columns
from oneheap.layouts.strands import carried_keys, kin_of
from oneheap.objects.thing import Thing
from oneheap.store.rows import Row, sorted_rows
from oneheap.store.tables import StoreKey, Table

PART_COLUMNS = 6


class KindTables:
    """The main table of a kind of the version with index `place`, and its parts; `kin` has a list for each version."""

    def __init__(self, place, kind, kin, name, columns, unique):
        self.place = place
        self.kind = kind
        self.kin = list(kin)
        self.name = name
        self.columns = list(columns)
        self.unique = list(unique)
        keyed = sum([len(key.places) for key in unique])
        self.first = max(PART_COLUMNS, keyed)

    def pieces(self, cells):
        """Return the pairs of the name of a table and its share of columns or cells, the main table first."""
        found = [(self.name, cells[:self.first])]
        for start in range(self.first, len(cells), PART_COLUMNS):
            found.append((f"{self.name}#{len(found) + 1}", cells[start:start + PART_COLUMNS]))
        return found

    def built(self, targets):
        """Return the list of the tables, of which references and links refer to the targets."""
        shares = self.pieces([column.column(targets) for column in self.columns])
        return [Table(name, share, self.unique if name == self.name else []) for name, share in shares]


class Layout:
    """The tables of a line."""

    def __init__(self, line):
        self.line = Line(line.versions)
        self.strands = all_strands(line)
        self.parts = self.all_parts(carried_keys(line))
        targets = [part.name for part in self.parts]
        self.tables = [table for part in self.parts for table in part.built(targets)]

    def all_parts(self, keys):
        """Return the tables of each kind of each version, in order."""
        found = []
        for place, version in enumerate(self.line.versions):
            for kind in version.schema.kinds:
                found.append(self.part_for(place, kind, [key for key in keys if key.versions[place][0] == kind.name]))
        return found

    def part_for(self, place, kind, keys):
        """Return the tables of a kind, whose main table has the given store keys."""
        names = []
        unique = []
        for key in keys:
            row = key.versions[place][1]
            unique.append(StoreKey(key.name, list(range(len(names), len(names) + len(row)))))
            names.extend(row)
        kin = [kin_of(self.line, place, kind.name, other) for other in range(len(self.line.versions))]
        columns = kind_columns(self.line, self.strands, place, kind, kin, names)
        name = f"v{self.line.versions[place].number}.{kind.name}"
        return KindTables(place, kind.name, kin, name, columns, unique)

    def part_of(self, place, kind):
        """Return the tables of a kind of the version with index `place`."""
        return [part for part in self.parts if part.place == place and part.kind == kind][0]

    def object_rows(self, heap, number, version):
        """Return the rows of an object that is placed at a version, the main table's row first."""
        kinds = []
        contents = {}
        for place, one in enumerate(self.line.versions):
            thing = heap.picture_of(one.number).get(number)
            kinds.append(None if thing is None else thing.kind)
            if thing is not None:
                for name, content in thing.contents.items():
                    contents.setdefault(self.strands[(place, thing.kind, name)], content)
        place = self.line.place_of(version)
        part = self.part_of(place, kinds[place])
        shares = part.pieces([column.cell(kinds, contents) for column in part.columns])
        return [Row(name, number, share) for name, share in shares]

    def rows_of(self, heap, places):
        """Return the rows of all objects of a heap, which have the given places."""
        rows = []
        for number, version in places.items():
            rows.extend(self.object_rows(heap, number, version))
        return sorted_rows(self.tables, rows)

    def read(self, rows):
        """Return the pair of the heap that rows show and the dict of the places of its objects."""
        found = {(row.table, row.number): row.cells for row in rows}
        pictures = {version.number: {} for version in self.line.versions}
        places = {}
        parts = {part.name: part for part in self.parts}
        for table, number in found:
            if table in parts:
                part = parts[table]
                places[number] = self.line.versions[part.place].number
                cells = []
                for name, _ in part.pieces(part.columns):
                    cells.extend(found[(name, number)])
                self.show(pictures, part, number, cells)
        return Heap(pictures), places

    def show(self, pictures, part, number, cells):
        """Put the things of one object, with these cells in the tables of its kind, into the pictures."""
        kinds = {column.place: cell for column, cell in zip(part.columns, cells) if column.strand is None}
        contents = {column.strand: cell for column, cell in zip(part.columns, cells) if column.strand is not None}
        for place, version in enumerate(self.line.versions):
            kind = kinds[place] if place in kinds else part.kin[place][0]
            if kind is not None:
                names = version.schema.kind_of(kind).names()
                shown = {name: contents[self.strands[(place, kind, name)]] for name in names}
                pictures[version.number][number] = Thing(kind, shown)


def column_count(tables):
    """Return how many columns the tables have together."""
    return sum([len(table.columns) for table in tables])
