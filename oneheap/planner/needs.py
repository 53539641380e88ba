"""Needs: what stands between the rows that are there and the rows that are wanted."""

from oneheap.errors import CannotMove, NumberTwice
from oneheap.objects.thing import content_copy


class Need:
    """The row that is there, or None, and the wanted row, or None; `table` and `number` tell its place in the order."""

    def __init__(self, before, behind):
        self.before = None if before is None else before.copied()
        self.behind = None if behind is None else behind.copied()
        place = self.before if behind is None else self.behind
        self.table = place.table
        self.number = place.number

    def __eq__(self, other):
        return isinstance(other, Need) and self.before == other.before and self.behind == other.behind


def main_names(tables):
    """Return a dict with the names of the main tables: those that are targets of columns."""
    return {target: True for table in tables for column in table.columns for target in column.targets}


def needs_of(tables, rows, wanted):
    """Return the needs between the rows that are there and the wanted ones, in order."""
    mains = main_names(tables)
    there = main_tables(mains, rows)
    aims = main_tables(mains, wanted)
    moved = {number: there[number] for number in there if number in aims and aims[number] != there[number]}
    for number in sorted(moved):
        if not moves_freely(tables, there[number], aims[number]):
            raise CannotMove(number)
    needs = needs_between(rows, wanted, aims, moved)
    return [needs[place] for place in places_in_order(tables, needs)]


def main_tables(mains, rows):
    """Return the dict from numbers to the names of the main tables that have rows with them."""
    found = {}
    twice = []
    for row in rows:
        if row.table in mains and found.setdefault(row.number, row.table) != row.table:
            twice.append(row.number)
    if len(twice) > 0:
        raise NumberTwice(min(twice))
    return found


def moves_freely(tables, table, aim):
    """Return whether each column that may refer to one of two tables may refer to the other one."""
    return all([(table in column.targets) == (aim in column.targets) for one in tables for column in one.columns])


def needs_between(rows, wanted, aims, moved):
    """Return the needs in any order; `moved` has the tables where rows are that are wanted in those of `aims`."""
    there = {(row.table, row.number): row for row in rows}
    behind = {(row.table, row.number): row for row in wanted}
    needs = []
    for (table, number), row in behind.items():
        if number in moved and aims[number] == table:
            needs.append(Need(there[(moved[number], number)], row))
        elif there.get((table, number)) != row:
            needs.append(Need(there.get((table, number)), row))
    for (table, number), row in there.items():
        if (table, number) not in behind and moved.get(number) != table:
            needs.append(Need(row, None))
    return needs


def places_in_order(tables, needs):
    """Return the indexes of needs by ascending numbers, and of one number in the order of the tables."""
    ranks = {table.name: rank for rank, table in enumerate(tables)}
    rows = [(need.number, ranks[need.table], place) for place, need in enumerate(needs)]
    return [place for _, _, place in sorted(rows)]


def statement_of(need):
    """Return the statement of a need."""
    before, behind = need.before, need.behind
    if before is None:
        return "insert", behind.table, behind.number, cells_copy(behind.cells)
    if behind is None:
        return "delete", before.table, before.number
    if before.table != behind.table:
        return "move", before.table, behind.table, behind.number, cells_copy(behind.cells)
    places = [place for place, cell in enumerate(behind.cells) if cell != before.cells[place]]
    return change_of(behind, places)


def change_of(row, places):
    """Return the statement that sets the cells at some places as the row has them."""
    return "change", row.table, row.number, [(place, content_copy(row.cells[place])) for place in places]


def cells_copy(cells):
    """Return equal cells that share nothing with the given ones."""
    return [content_copy(cell) for cell in cells]
