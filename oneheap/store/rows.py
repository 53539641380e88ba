"""Rows of tables."""

from oneheap.objects.thing import content_copy

MARK = ("mark",)


class Row:
    """A row: the name of its table, a number, and a cell for each column."""

    def __init__(self, table, number, cells):
        self.table = table
        self.number = number
        self.cells = [content_copy(cell) for cell in cells]

    def copied(self):
        """Return an equal row that shares nothing with this one."""
        return Row(self.table, self.number, self.cells)

    def __eq__(self, other):
        if not isinstance(other, Row) or self.table != other.table:
            return False
        return self.number == other.number and self.cells == other.cells


def sorted_rows(tables, rows):
    """Return the rows table by table, and by ascending numbers in each table."""
    own = {table.name: [] for table in tables}
    for row in rows:
        if row.table in own:
            own[row.table].append(row)
    found = []
    for table in tables:
        found.extend(sorted(own[table.name], key=lambda row: row.number))
    return found


def key_value(table, key, cells):
    """Return the value of a key that cells of the table have, as pairs of a role and a cell, or None."""
    found = [(table.columns[place].role, cells[place]) for place in key.places]
    return None if any([cell is None or cell == MARK for _, cell in found]) else tuple(found)


def key_values(table, cells):
    """Return the pairs of the name of a key and its value for all keys of which cells of the table have a value."""
    pairs = [(key.name, key_value(table, key, cells)) for key in table.unique]
    return [(name, value) for name, value in pairs if value is not None]


def is_linking(column):
    """Return whether a column holds references or links."""
    return column.role == "reference" or column.role == "links"


def linked_numbers(table, cells):
    """Return the pairs of a column and a number to which cells of the table refer, in order."""
    found = []
    for column, cell in zip(table.columns, cells):
        if is_linking(column) and cell is not None and cell != MARK:
            numbers = cell if isinstance(cell, list) else [cell]
            found.extend([(column, number) for number in numbers])
    return found
