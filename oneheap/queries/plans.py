"""Plans of queries: which objects need be looked at."""

from oneheap.queries.meaning import Scene
from oneheap.queries.reading import read_query
from oneheap.queries.terms import (
    AND_LEVEL, PRODUCT_LEVEL, SUM_LEVEL, AmongTerm, ChainTerm, CompareTerm, MinusTerm, NumberTerm, ParameterTerm,
    PathTerm, TextTerm,
)
from oneheap.schemas.sorts import is_link, is_reference

LONGEST_PATH = 3


class Part:
    """A test that tells which objects need be looked at: a path by the names of its fields, and terms without names."""

    def __init__(self, fields, terms):
        self.fields = list(fields)
        self.terms = list(terms)

    def amounts(self, parameters):
        """Return the list of what the terms are worth, each amount once."""
        scene = Scene(None, parameters, {}, [])
        return list({term.worth(scene): True for term in self.terms})


class AllPlan:
    """All objects of the kind are looked at."""

    def __init__(self):
        self.text = "all"
        self.parts = []

    def numbers_in(self, view, kind, rows):
        """Return the numbers of the objects that are looked at; `rows` has the amounts of each part."""
        return view.numbers(kind)


class NumberPlan:
    """The numbers that a part tells are looked at."""

    def __init__(self, part):
        self.text = "number"
        self.parts = [part]

    def numbers_in(self, view, kind, rows):
        """Return the numbers of the objects that are looked at; `rows` has the amounts of each part."""
        return rows[0]


class KeyPlan:
    """The objects with some contents of the fields of a key are looked at; there is a part for each field."""

    def __init__(self, names, parts):
        self.text = "key " + ", ".join(names)
        self.names = list(names)
        self.parts = list(parts)

    def numbers_in(self, view, kind, rows):
        """Return the numbers of the objects that are looked at; `rows` has the amounts of each part."""
        if all([len(amounts) == 1 for amounts in rows]):
            return view.alike(kind, self.names, [amounts[0] for amounts in rows])
        # There may be too many choices of one amount for each field to ask for them one by one.
        found = view.numbers(kind)
        for name, amounts in zip(self.names, rows):
            alike = numbers_alike(view, kind, name, amounts)
            found = [number for number in found if number in alike]
        return found


class PathPlan:
    """The objects from which a path leads to one of some amounts are looked at."""

    def __init__(self, word, part):
        self.text = f"{word} " + ".".join(part.fields)
        self.parts = [part]

    def numbers_in(self, view, kind, rows):
        """Return the numbers of the objects that are looked at; `rows` has the amounts of each part."""
        return leading_numbers(view, kind, self.parts[0].fields, rows[0])


def numbers_alike(view, kind, name, amounts):
    """Return the numbers of the objects of a kind whose content of a field is one of some amounts."""
    return [number for amount in amounts for number in view.alike(kind, [name], [amount])]


def leading_numbers(view, kind, fields, amounts):
    """Return the numbers of the objects of a kind from which fields lead to one of some amounts."""
    name = fields[0]
    shape = view.schema.field_of(kind, name).shape
    if len(fields) == 1 and not is_link(shape):
        return numbers_alike(view, kind, name, amounts)
    aims = list(amounts)
    if len(fields) > 1:
        aims = [number for one in shape.kinds for number in leading_numbers(view, one, fields[1:], amounts)]
    return [number for aim in sorted(set(aims)) for number in view.referrers(aim, kind, name)]


def plan_of(schema, query):
    """Return the plan of a query."""
    parts = [] if query.parts.where is None else all_parts(query.name, query.parts.where)
    alone = first_part(parts, [[]])
    if alone is not None:
        return NumberPlan(alone)
    kind = schema.kind_of(query.kind)
    for row in kind.key_rows:
        keyed = [first_part(parts, [[name]]) for name in row]
        if not has_none(keyed) and not any([is_reference(kind.field_of(name).shape) for name in row]):
            return KeyPlan(row, keyed)
    part = first_part(parts, [[name] for name in kind.names() if is_reference(kind.field_of(name).shape)])
    if part is not None:
        return PathPlan("reference", part)
    part = first_part(parts, [one.fields for one in parts if 2 <= len(one.fields) <= LONGEST_PATH])
    return AllPlan() if part is None else PathPlan("path", part)


def has_none(rows):
    """Return whether one of some things is None."""
    return any([row is None for row in rows])


def first_part(parts, rows):
    """Return the first part whose fields are one of some rows of names, or None."""
    for part in parts:
        if part.fields in rows:
            return part
    return None


def all_parts(origin, term):
    """Return the parts among the tests that "and" alone joins, in order; `origin` is the name behind "from"."""
    if isinstance(term, ChainTerm) and term.level == AND_LEVEL:
        return [one for side in term.sides() for one in all_parts(origin, side)]
    part = None
    if isinstance(term, CompareTerm) and term.sign == "=":
        part = part_for(origin, term.left, [term.right])
        if part is None:
            part = part_for(origin, term.right, [term.left])
    elif isinstance(term, AmongTerm):
        part = part_for(origin, term.inner, term.others)
    return [] if part is None else [part]


def part_for(origin, path, terms):
    """Return the part in which a path must be one of some terms, or None if they do not make one."""
    if not isinstance(path, PathTerm) or path.name != origin or not all([is_nameless(term) for term in terms]):
        return None
    return Part(path.fields, terms)


def is_nameless(term):
    """Return whether a term consists of numbers, texts and parameters, and of what "-", "+" and "*" make of them."""
    if isinstance(term, MinusTerm):
        return is_nameless(term.inner)
    if isinstance(term, ChainTerm):
        return term.level in (SUM_LEVEL, PRODUCT_LEVEL) and all([is_nameless(side) for side in term.sides()])
    return isinstance(term, NumberTerm) or isinstance(term, TextTerm) or isinstance(term, ParameterTerm)


def plan_text(schema, text):
    """Return the plan of the text of a query as a text."""
    return plan_of(schema, read_query(schema, text)).text


def candidates(view, query, parameters):
    """Return the numbers of the objects that the plan of a query looks at, ascending."""
    plan = plan_of(view.schema, query)
    rows = [part.amounts(parameters) for part in plan.parts]
    if any([None in amounts for amounts in rows]):
        plan = AllPlan()
    return sorted(set(plan.numbers_in(view, query.kind, rows)))
