"""Queries as deeds: their answers by the objects that their plans look at."""

from oneheap.errors import TooManyLines
from oneheap.queries.lines import check_parameters, lines_by
from oneheap.queries.plans import candidates
from oneheap.queries.reading import read_query
from oneheap.queries.sorts import OBJECT

MOST_LINES = 20


def answer_query(view, text, parameters):
    """Return the lines of the answer of a query."""
    query = read_query(view.schema, text)
    check_parameters(query, parameters)
    lines = lines_by(view, query, parameters, candidates(view, query, parameters))
    if len(lines) > MOST_LINES:
        raise TooManyLines()
    return lines


def object_columns_of(schema, text):
    """Return the indexes of the terms behind "give" that are objects."""
    sorts = read_query(schema, text).parts.given_sorts
    return [place for place, word in enumerate(sorts) if word == OBJECT]


def do(view, deed):
    """Do a deed on a view, and return what it returns."""
    return answer_query(view, deed[1], deed[2]) if deed[0] == "query" else view.do(deed)
