"""Which numbers come together around deeds, and reading ahead."""

from oneheap.queries.deeds import object_columns_of
from oneheap.schemas.sorts import is_link, is_reference


def beside(reader, schema, number, field):
    """Return the numbers beside a number by a field."""
    found = {}
    for one in reader.company(number):
        thing = known_thing(reader, one)
        if thing is not None and is_reference(shape_of(schema, thing, field)) and thing.contents[field] is not None:
            found[thing.contents[field]] = True
    return list(found)


def known_thing(reader, number):
    """Return the thing of a number, or None if it is not there or not known."""
    return reader.thing(number) if reader.knows(number) else None


def shape_of(schema, thing, name):
    """Return the shape of a field of a thing, or None if its kind has no such field."""
    field = schema.field_of(thing.kind, name)
    return None if field is None else field.shape


def prepare(reader, view, deed):
    """Do what is done ahead of a deed."""
    if deed[0] == "told":
        view.thing(deed[1])
        reader.together(beside(reader, view.schema, deed[1], deed[2]))
    elif deed[0] == "listed":
        thing = view.thing(deed[1])
        content = None if thing is None else thing.contents.get(deed[2])
        if isinstance(content, list):
            reader.together(content)


def answered(reader, view, deed, answer):
    """Do what is done behind the answer of a deed."""
    word = deed[0]
    if word == "told" and answer is not None:
        if is_reference(shape_of(view.schema, view.thing(deed[1]), deed[2])):
            numbers = beside(reader, view.schema, deed[1], deed[2])
            reader.together(numbers if answer in numbers else [answer])
    elif word == "listed" or word == "referred":
        reader.together(answer)
    elif word == "look_up" and answer is not None:
        reader.together([answer])
    elif word == "make":
        reader.together([deed[1]])
    elif word == "query":
        for place in object_columns_of(view.schema, deed[1]):
            reader.together([line[place] for line in answer if line[place] is not None])


def read_ahead(reader, schema, numbers, paths):
    """Read ahead from numbers along paths."""
    read_together(reader, numbers)
    for path in paths:
        reached = list(numbers)
        for field in path:
            reached = held_numbers(reader, schema, reached, field)
            read_together(reader, reached)


def read_together(reader, numbers):
    """Let numbers come together, and request their things."""
    reader.together(numbers)
    # Each request for one of them asks for as many of its company as it may, the least first.
    for number in sorted(set(numbers)):
        reader.thing(number)


def held_numbers(reader, schema, numbers, field):
    """Return the numbers that a reference or list field of things holds, as they are found, each once."""
    found = {}
    for number in numbers:
        thing = known_thing(reader, number)
        if thing is not None and is_link(shape_of(schema, thing, field)):
            content = thing.contents[field]
            for one in content if isinstance(content, list) else [content]:
                if one is not None:
                    found[one] = True
    return list(found)
