"""Paths in the text of a query, and what is known while it is read."""

from oneheap.errors import Fault
from oneheap.queries.sorts import LIST, OBJECT, kinds_of_shapes, sort_of_shape
from oneheap.queries.terms import PathTerm

DEEPEST = 6


class QueryState:
    """What is known at a place of a query: names with their kinds, groups, and how deep it is."""

    def __init__(self, schema, reader):
        self.schema = schema
        self.reader = reader
        self.origin = None
        self.names = {}
        # The rows of names of the paths behind "by", where only these may stand; else None.
        self.groups = None
        self.depth = 0

    def enter(self, token):
        """Go deeper at a parenthesis or a word."""
        if self.depth == DEEPEST:
            raise Fault(token.place, "too deep")
        self.depth += 1

    def leave(self):
        """Go out of what was entered last."""
        self.depth -= 1

    def small_name(self):
        """Take a name."""
        return self.reader.small_name("expected a name")

    def new_name(self):
        """Take a name that is not known, and return its text."""
        name = self.small_name()
        if name.text in self.names:
            raise Fault(name.place, "name twice")
        return name.text


class DrawnPath:
    """A path as it was read: its term, the place of its first name, and what it leads to."""

    def __init__(self, term, place, word, kinds):
        self.term = term
        self.place = place
        self.word = word
        self.kinds = kinds


def read_path(state):
    """Read a path whose end may be anything."""
    name = state.small_name()
    if name.text not in state.names:
        raise Fault(name.place, "no such name")
    word = OBJECT
    kinds = state.names[name.text]
    fields = []
    while state.reader.passes("."):
        field = state.reader.field_name()
        word, kinds = behind_point(state.schema, word, kinds, field)
        fields.append(field.text)
    return DrawnPath(PathTerm(name.text, fields), name.place, word, kinds)


def behind_point(schema, word, kinds, field):
    """Return the sort and the kinds of a field of what has a sort and kinds."""
    if word == LIST:
        raise Fault(field.place, "a list")
    if word != OBJECT:
        raise Fault(field.place, "not a reference")
    found = [schema.field_of(kind, field.text) for kind in kinds]
    if None in found:
        raise Fault(field.place, "no such field")
    shapes = [one.shape for one in found]
    sorts = [sort_of_shape(shape) for shape in shapes]
    if any([other != sorts[0] for other in sorts]):
        raise Fault(field.place, "sorts differ")
    if sorts[0] == OBJECT or sorts[0] == LIST:
        return sorts[0], kinds_of_shapes(shapes)
    return sorts[0], []


def read_plain_path(state):
    """Read a path that is no list."""
    path = read_path(state)
    check_group(state, path)
    return refuse_list(path)


def read_list_path(state):
    """Read a path to a list."""
    path = read_path(state)
    check_group(state, path)
    if path.word != LIST:
        raise Fault(path.place, "not a list")
    return path


def read_total_path(state):
    """Read the path of a total of a group, which may have any fields."""
    return refuse_list(read_path(state))


def refuse_list(path):
    """Return a path that is no list."""
    if path.word == LIST:
        raise Fault(path.place, "a list")
    return path


def check_group(state, path):
    """Refuse a path that is none of those behind "by", where it must be one."""
    if state.groups is None or path.term.name != state.origin:
        return
    if path.term.fields not in state.groups:
        raise Fault(path.place, "not in the groups")
