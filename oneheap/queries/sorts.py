"""The sorts of expressions in queries, and what operators ask of them."""

from oneheap.schemas.sorts import ChoiceSort, IntSort, TextSort, is_reference

INTEGER = "integer"
TEXT = "text"
TRUTH = "truth"
OBJECT = "object"
LIST = "list"
# A parameter that stands alone has the sort of what it is joined with.
PARAMETER = "parameter"

ASKED = {
    "or": (TRUTH,),
    "and": (TRUTH,),
    "=": (INTEGER, TEXT, OBJECT),
    "!=": (INTEGER, TEXT, OBJECT),
    "<": (INTEGER, TEXT),
    "<=": (INTEGER, TEXT),
    ">": (INTEGER, TEXT),
    ">=": (INTEGER, TEXT),
    "starts": (TEXT,),
    "holds": (TEXT,),
    "in": (INTEGER, TEXT, OBJECT),
    "+": (INTEGER,),
    "-": (INTEGER,),
    "*": (INTEGER,),
    "sum": (INTEGER,),
    "least": (INTEGER, TEXT),
    "greatest": (INTEGER, TEXT),
}


def sort_of_shape(shape):
    """Return the sort of a field of a shape."""
    if isinstance(shape, IntSort):
        return INTEGER
    if isinstance(shape, TextSort) or isinstance(shape, ChoiceSort):
        return TEXT
    return OBJECT if is_reference(shape) else LIST


def kinds_of_shapes(shapes):
    """Return the names of the kinds that shapes of references or lists name, each once."""
    found = []
    for shape in shapes:
        for kind in shape.kinds:
            if kind not in found:
                found.append(kind)
    return found


def common_sort(sign, sorts):
    """Return the sort that the sides of an operator have together, or None if it cannot be so."""
    asked = ASKED[sign]
    known = [word for word in sorts if word != PARAMETER]
    if len(known) == 0:
        known = [asked[0]] if len(asked) == 1 else [PARAMETER]
    word = known[0]
    if word not in asked or any([other != word for other in known]):
        return None
    # A parameter is no truth.
    return None if word == TRUTH and PARAMETER in sorts else word
