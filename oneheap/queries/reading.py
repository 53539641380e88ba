"""Queries out of texts."""

from oneheap.errors import Fault
from oneheap.queries.expressions import DIFFER, merged, read_either, read_number, read_parameter
from oneheap.queries.paths import QueryState, read_plain_path
from oneheap.queries.query import OrderTerm, Query, QueryParts
from oneheap.queries.sorts import INTEGER, PARAMETER, TRUTH
from oneheap.queries.terms import ParameterTerm
from oneheap.queries.writing import parts_text
from oneheap.words.reader import TokenReader
from oneheap.words.tokens import tokens

QUERY_SIGNS = (".", ",", "(", ")", ":", "=", "!=", "<", "<=", ">", ">=", "+", "-", "*")
QUERY_WORDS = (
    "from", "where", "group", "all", "by", "order", "down", "give", "skip", "first", "or", "and", "not", "some",
    "every", "in", "starts", "holds", "is", "null", "count", "sum", "least", "greatest",
)
LONGEST_QUERY = 400
MOST_GIVEN = 6
MOST_ORDERED = 4
MOST_GROUPED = 4


def read_query(schema, text):
    """Return the query of a text."""
    reader = TokenReader(tokens(text, QUERY_SIGNS, LONGEST_QUERY), QUERY_WORDS)
    state = QueryState(schema, reader)
    parts = read_from(state)
    rows = [read_where(state, parts)]
    read_group(state, parts)
    rows.extend(read_order(state, parts))
    reader.must("give")
    place = reader.here().place
    rows.extend(read_give(state, parts))
    rows.extend(read_counts(state, parts))
    reader.must_end()
    parts.parameters = merged(rows, place)
    return Query(parts, parts_text(parts))


def read_from(state):
    """Read the kind of a query and the name behind it."""
    state.reader.must("from")
    kind = state.reader.kind_name()
    if state.schema.kind_of(kind.text) is None:
        raise Fault(kind.place, "no such kind")
    state.origin = state.new_name()
    state.names[state.origin] = [kind.text]
    return QueryParts(kind.text, state.origin)


def read_where(state, parts):
    """Read what stands behind "where", if it does; return the sorts of its parameters."""
    if not state.reader.passes("where"):
        return {}
    place = state.reader.here().place
    drawn = read_either(state)
    if drawn.word != TRUTH:
        raise Fault(place, DIFFER)
    parts.where = drawn.term
    return drawn.parameters


def read_group(state, parts):
    """Read what stands behind "group", if it does."""
    if not state.reader.passes("group"):
        return
    parts.groups = []
    if not state.reader.passes("all"):
        state.reader.must("by")
        parts.groups = read_several(state, MOST_GROUPED, read_group_path)
    state.groups = [path.fields for path in parts.groups]


def read_group_path(state):
    """Read one of the paths behind "group by"."""
    return read_plain_path(state).term


def read_several(state, most, read_one):
    """Read one or more terms, with commas between them."""
    found = [read_one(state)]
    while state.reader.passes(","):
        if len(found) == most:
            raise Fault(state.reader.here().place, "too many terms")
        found.append(read_one(state))
    return found


def read_told(state):
    """Read an expression that is no truth and has a sort of its own."""
    place = state.reader.here().place
    drawn = read_either(state)
    if drawn.word == TRUTH or drawn.word == PARAMETER:
        raise Fault(place, DIFFER)
    return drawn


def read_order_term(state):
    """Read a term behind "order by", and return it with the sorts of its parameters."""
    drawn = read_told(state)
    return OrderTerm(drawn.term, state.reader.passes("down")), drawn.parameters


def read_order(state, parts):
    """Read what stands behind "order", if it does; return the sorts of the parameters of each term."""
    if not state.reader.passes("order"):
        return []
    state.reader.must("by")
    found = read_several(state, MOST_ORDERED, read_order_term)
    parts.order = [term for term, _ in found]
    return [row for _, row in found]


def read_give(state, parts):
    """Read what stands behind "give"; return the sorts of the parameters of each term."""
    found = read_several(state, MOST_GIVEN, read_told)
    parts.given = [drawn.term for drawn in found]
    parts.given_sorts = [drawn.word for drawn in found]
    return [drawn.parameters for drawn in found]


def read_counts(state, parts):
    """Read the ends "skip" and "first"; return the sorts of their parameters."""
    if state.reader.passes("skip"):
        parts.skipped = read_bound(state)
    if state.reader.passes("first"):
        parts.kept = read_bound(state)
    bounds = [parts.skipped, parts.kept]
    return [{bound.name: INTEGER} for bound in bounds if isinstance(bound, ParameterTerm)]


def read_bound(state):
    """Read what stands behind "skip" or "first"."""
    if state.reader.here().role == "number":
        return read_number(state)
    if state.reader.stands(":"):
        return read_parameter(state)
    raise Fault(state.reader.here().place, "expected a count")
