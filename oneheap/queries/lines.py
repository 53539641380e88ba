"""The lines of the answers of queries, and the parameters that they ask for."""

from oneheap.errors import NoParameter, WrongParameter
from oneheap.queries.meaning import Scene
from oneheap.queries.sorts import INTEGER, TEXT
from oneheap.queries.terms import ParameterTerm

MOST_COUNTED = 100


def check_parameters(query, parameters):
    """Refuse the first parameter of a query that is not given or does not fit."""
    parts = query.parts
    bounds = [bound.name for bound in (parts.skipped, parts.kept) if isinstance(bound, ParameterTerm)]
    for name, word in parts.parameters.items():
        if name not in parameters:
            raise NoParameter(name)
        amount = parameters[name]
        if not fits(word, amount) or (name in bounds and not fits_bound(amount)):
            raise WrongParameter(name)


def fits(word, amount):
    """Return whether a value fits a parameter of a sort."""
    if amount is None:
        return True
    if word == TEXT:
        return isinstance(amount, str)
    if not is_whole(amount):
        return False
    return word == INTEGER or amount >= 1


def fits_bound(amount):
    """Return whether a value fits behind "skip" and "first"."""
    return is_whole(amount) and 0 <= amount <= MOST_COUNTED


def is_whole(amount):
    """Return whether a value is an integer; True and False are none."""
    return isinstance(amount, int) and not isinstance(amount, bool)


def lines_by(view, query, parameters, numbers):
    """Return the lines of a query if the objects with the given numbers are looked at."""
    scenes = line_scenes(view, query, parameters, found_numbers(view, query, parameters, numbers))
    for order in reversed(query.parts.order):
        scenes = sorted_by(scenes, order)
    scenes = scenes[bound_of(query.parts.skipped, parameters, 0):]
    scenes = scenes[:bound_of(query.parts.kept, parameters, len(scenes))]
    return [[term.worth(scene) for term in query.parts.given] for scene in scenes]


def found_numbers(view, query, parameters, numbers):
    """Return those of the numbers that are objects of the kind of a query of which its "where" is true, ascending."""
    found = []
    for number in sorted(set(numbers)):
        thing = view.thing(number)
        if thing is not None and thing.kind == query.kind and is_found(view, query, parameters, number):
            found.append(number)
    return found


def is_found(view, query, parameters, number):
    """Return whether the "where" of a query is true of an object."""
    if query.parts.where is None:
        return True
    return query.parts.where.worth(Scene(view, parameters, {query.name: number}, []))


def line_scenes(view, query, parameters, found):
    """Return the scenes of the lines, one for each object that is found or for each group of them."""
    if query.parts.groups is None:
        return [Scene(view, parameters, {query.name: number}, []) for number in found]
    if len(query.parts.groups) == 0:
        return [Scene(view, parameters, {}, found)]
    groups = {}
    for number in found:
        scene = Scene(view, parameters, {query.name: number}, [])
        alike = tuple([path.worth(scene) for path in query.parts.groups])
        groups.setdefault(alike, []).append(number)
    # All objects of a group tell the same by the paths behind "by", so the first one may stand for them.
    return [Scene(view, parameters, {query.name: group[0]}, group) for group in groups.values()]


def sorted_by(scenes, order):
    """Return the scenes sorted by a term; those alike in it stay in their order."""
    rows = [(rank_of(order.term.worth(scene)), scene) for scene in scenes]
    if order.down:
        rows = sorted(rows, key=lambda row: row[0], reverse=True)
    else:
        rows = sorted(rows, key=lambda row: row[0])
    return [scene for _, scene in rows]


def rank_of(amount):
    """Return what sorts values: None comes ahead of everything else."""
    return (0, 0) if amount is None else (1, amount)


def bound_of(bound, parameters, otherwise):
    """Return how many lines are told behind "skip" or "first", or another number if it does not stand there."""
    if bound is None:
        return otherwise
    return parameters.get(bound.name, otherwise) if isinstance(bound, ParameterTerm) else bound.amount
