"""Plans: statements that lead from rows to other rows."""

from oneheap.errors import RowsOutOfOrder
from oneheap.planner.needs import Need, change_of, needs_of, statement_of
from oneheap.planner.order import NeedOrder
from oneheap.store.rows import MARK, Row, is_linking
from oneheap.store.tables import table_named
from oneheap.store.transactions import are_in_order


def plan_rows(tables, rows, wanted):
    """Return the statements that lead from the rows that are there to the wanted ones."""
    if not are_in_order(tables, rows) or not are_in_order(tables, wanted):
        raise RowsOutOfOrder()
    needs = needs_of(tables, rows, wanted)
    order = NeedOrder(tables, needs)
    freed = [needs[place] for place in order.freed]
    plan = [loosening(tables, need) for need in freed if need.before is not None]
    for place in order.made:
        need = needs[place]
        is_marked = need.before is None and place in order.freed
        plan.append(statement_of(marked_insert(tables, need) if is_marked else need))
    for need in freed:
        if need.before is None:
            plan.append(change_of(need.behind, held_places(tables, need.behind)))
    return plan


def held_places(tables, row):
    """Return the indexes of the references, links and columns of keys where a row holds something."""
    table = table_named(tables, row.table)
    keyed = [place for key in table.unique for place in key.places]
    found = []
    for place, column in enumerate(table.columns):
        if (is_linking(column) or place in keyed) and row.cells[place] is not None and row.cells[place] != []:
            found.append(place)
    return found


def marked(row, places):
    """Return a row like the given one with marks at some places."""
    cells = list(row.cells)
    for place in places:
        cells[place] = MARK
    return Row(row.table, row.number, cells)


def loosening(tables, need):
    """Return the change that puts marks where the row of a freed need that is there lets go of something."""
    before, behind = need.before, need.behind
    places = held_places(tables, before)
    if behind is not None and behind.table == before.table:
        places = [place for place in places if before.cells[place] != behind.cells[place]]
    return change_of(marked(before, places), places)


def marked_insert(tables, need):
    """Return a need like a freed insert, but with marks where its row takes something."""
    return Need(None, marked(need.behind, held_places(tables, need.behind)))
