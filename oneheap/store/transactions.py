"""Transactions: statements that are made one after the other on rows."""

from oneheap.errors import MarksLeft, RowsOutOfOrder, StatementRefused
from oneheap.store.rows import MARK, Row, key_values, linked_numbers, sorted_rows


def first_fault(tables, rows):
    """Return the first broken rule of rows, marks apart, as a pair of its reason and a number; or None."""
    ordered = sorted_rows(tables, rows)
    named = {table.name: table for table in tables}
    number = first_missing(named, ordered)
    if number is not None:
        return "not there", number
    number = first_double(named, ordered)
    return None if number is None else ("same key", number)


def first_missing(named, rows):
    """Return the first number in references and links of rows that is not there for its column, or None."""
    there = {(row.table, row.number): True for row in rows}
    for row in rows:
        for column, number in linked_numbers(named[row.table], row.cells):
            if not any([(target, number) in there for target in column.targets]):
                return number
    return None


def first_double(named, rows):
    """Return the number of the first row that has a value of a key which a row before it has, or None."""
    known = {}
    for row in rows:
        found = key_values(named[row.table], row.cells)
        if any([value in known for value in found]):
            return row.number
        for value in found:
            known[value] = True
    return None


def are_in_order(tables, rows):
    """Return whether rows keep all rules, have no marks, and no two of one table have the same number."""
    places = [(row.table, row.number) for row in rows]
    if len(set(places)) != len(places) or have_marks(rows):
        return False
    return first_fault(tables, rows) is None


def have_marks(rows):
    """Return whether a cell of a row is a mark."""
    return any([MARK in row.cells for row in rows])


def run_statements(tables, rows, statements):
    """Make a transaction; return the rows behind it, table by table and by ascending numbers."""
    if not are_in_order(tables, rows):
        raise RowsOutOfOrder()
    found = {(row.table, row.number): row.copied() for row in rows}
    for place, statement in enumerate(statements):
        reason = row_fault(found, statement)
        if reason is not None:
            raise StatementRefused(place, reason)
        make_statement(found, statement)
        fault = first_fault(tables, list(found.values()))
        if fault is not None:
            raise StatementRefused(place, fault[0], fault[1])
    left = list(found.values())
    if have_marks(left):
        raise MarksLeft()
    return sorted_rows(tables, left)


def row_fault(found, statement):
    """Return why the rows that are there do not allow a statement, or None; `found` has them by table and number."""
    word, table = statement[0], statement[1]
    if word == "insert":
        return "row is there" if (table, statement[2]) in found else None
    number = statement[3] if word == "move" else statement[2]
    if (table, number) not in found:
        return "no such row"
    return "row is there" if word == "move" and (statement[2], number) in found else None


def make_statement(found, statement):
    """Make a statement on rows, which `found` has by table and number."""
    word, table = statement[0], statement[1]
    if word == "insert":
        put_row(found, table, statement[2], statement[3])
    elif word == "change":
        cells = list(found[(table, statement[2])].cells)
        for place, cell in statement[3]:
            cells[place] = cell
        put_row(found, table, statement[2], cells)
    elif word == "delete":
        del found[(table, statement[2])]
    else:
        del found[(table, statement[3])]
        put_row(found, statement[2], statement[3], statement[4])


def put_row(found, table, number, cells):
    """Put a new row among the rows."""
    found[(table, number)] = Row(table, number, cells)
