"""What a deletion takes along, what refuses it, and what it clears."""

from oneheap.objects.edits import with_content, without_any
from oneheap.objects.thing import told_content
from oneheap.schemas.sorts import is_link, is_list


def all_going(view, number):
    """Return the numbers of the objects that go if one is deleted, in the order in which they are found."""
    going = [number]
    place = 0
    while place < len(going):
        for other in tellers(view, going[place], "takes"):
            if other not in going:
                going.append(other)
        place += 1
    return going


def tellers(view, number, rule):
    """Return the numbers of the objects that tell a number by a field with the rule, each once, ascending."""
    kind = view.kind_of(number)
    found = []
    for one in view.schema.kinds:
        for field in one.fields:
            if rule_of(field.shape) == rule and kind in field.shape.kinds:
                found.extend(view.referrers(number, one.name, field.name))
    return sorted(set(found))


def rule_of(shape):
    """Return the rule of a reference; that of a list is to be cleared, and other shapes have none."""
    if is_list(shape):
        return "clears"
    return shape.rule if is_link(shape) else None


def refusal(view, going):
    """Return the pair of the object and the field that refuse a deletion, or None."""
    staying = all_tellers(view, going, "refuses")
    if len(staying) == 0:
        return None
    return staying[0], telling_fields(view, staying[0], going, "refuses")[0]


def all_tellers(view, going, rule):
    """Return the numbers of the objects that stay and tell one that goes by a field with the rule, ascending."""
    found = [other for number in going for other in tellers(view, number, rule) if other not in going]
    return sorted(set(found))


def telling_fields(view, number, going, rule):
    """Return the names of the fields with the rule by which an object tells one that goes, in order."""
    thing = view.thing(number)
    found = []
    for field in view.schema.kind_of(thing.kind).fields:
        if rule_of(field.shape) == rule and tells_any(view, field, thing.contents[field.name], going):
            found.append(field.name)
    return found


def tells_any(view, field, content, going):
    """Return whether one of the numbers that go is told of the content of a reference or list field."""
    told = told_content(view, field, content)
    numbers = told if is_list(field.shape) else [told]
    return any([number in going for number in numbers])


def cleared_fields(view, going):
    """Return the pairs of an object that stays and a field that is cleared, the least object first."""
    found = []
    for number in all_tellers(view, going, "clears"):
        found.extend([(number, name) for name in telling_fields(view, number, going, "clears")])
    return found


def cleared_things(view, cleared, going):
    """Return a dict from the numbers of the cleared objects to their things without the numbers that go."""
    things = {}
    for number, name in cleared:
        thing = things[number] if number in things else view.thing(number)
        things[number] = with_content(thing, name, without_any(thing.contents[name], going))
    return things
