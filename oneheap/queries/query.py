"""Queries that were read."""


class OrderTerm:
    """A term by which lines are sorted; "down" turns its order round."""

    def __init__(self, term, down):
        self.term = term
        self.down = down

    def written(self):
        """Return the term as text."""
        return f"{self.term.written()} down" if self.down else self.term.written()


class QueryParts:
    """What stands in a query: terms, or None for what does not stand there.

    The paths of `groups` are an empty list for "group all". The sorts of the parameters
    stand in the order in which the parameters stand in the text; those of the terms behind
    "give" stand in the order of the terms.
    """

    def __init__(self, kind, name):
        self.kind = kind
        self.name = name
        self.where = None
        self.groups = None
        self.order = []
        self.given = []
        self.given_sorts = []
        self.skipped = None
        self.kept = None
        self.parameters = {}


class Query:
    """A query that was read; `text` is the query written again."""

    def __init__(self, parts, text):
        self.parts = parts
        self.kind = parts.kind
        self.name = parts.name
        self.text = text
