"""Rows of tables."""

from oneheap.objects.thing import content_copy

MARK = ("mark",)


class Row:
    """A row: the name of its table, a number, and a cell for each column."""

    def __init__(self, table, number, cells):
        self.table = table
        self.number = number
        self.cells = [content_copy(cell) for cell in cells]

    def __eq__(self, other):
        if not isinstance(other, Row) or self.table != other.table:
            return False
        return self.number == other.number and self.cells == other.cells


def sorted_rows(tables, rows):
    """Return the rows table by table, and by ascending numbers in each table."""
    found = []
    for table in tables:
        own = [row for row in rows if row.table == table.name]
        found.extend(sorted(own, key=lambda row: row.number))
    return found


def key_value(table, key, cells):
    """Return the value of a key that cells of the table have, as pairs of a role and a cell, or None."""
    found = [(table.columns[place].role, cells[place]) for place in key.places]
    return None if any([cell is None or cell == MARK for _, cell in found]) else tuple(found)
