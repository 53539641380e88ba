"""Constraints against objects, and the sizes of pictures."""

from oneheap.objects.source import PictureSource
from oneheap.objects.thing import told_content
from oneheap.schemas.schema import key_constraint, needed_constraint
from oneheap.schemas.sorts import is_list


def constraints_against(schema, picture, number):
    """Return the texts of the constraints against an object of a picture: needed fields, then keys."""
    kind = schema.kind_of(picture[number].kind)
    return against_fields(schema, picture, number, kind.names())


def against_fields(schema, picture, number, names):
    """Return the texts of the constraints against an object that ask for one of the fields with these names."""
    source = PictureSource(picture)
    kind = schema.kind_of(picture[number].kind)
    found = []
    for field in kind.fields:
        if field.needed and field.name in names and told_of(source, kind, number, field.name) is None:
            found.append(needed_constraint(kind.name, field.name))
    for row in kind.key_rows:
        if any([name in names for name in row]) and has_double(source, kind, number, row):
            found.append(key_constraint(kind.name, row))
    return found


def told_of(source, kind, number, name):
    """Return what is told of a field of an object of the kind."""
    return told_content(source, kind.field_of(name), source.thing(number).contents[name])


def has_double(source, kind, number, row):
    """Return whether another object of the kind has the same told values of a key, none of which is None."""
    values = [told_of(source, kind, number, name) for name in row]
    if None in values:
        return False
    # None of the values is None, so whoever tells the same holds the same, and the other way round.
    return any([other != number for other in source.alike(kind.name, row, values)])


def first_against(schema, picture, touches):
    """Return the pair of an object and the first constraint that stands against what was touched, or None."""
    for touch in touches:
        if touch.number in picture:
            names = schema.kind_of(picture[touch.number].kind).names() if touch.made else touch.names
            found = against_fields(schema, picture, touch.number, names)
            if len(found) > 0:
                return touch.number, found[0]
    return None


def picture_size(schema, picture):
    """Return the size of a picture."""
    source = PictureSource(picture)
    return sum([thing_size(schema, source, thing) for thing in picture.values()])


def thing_size(schema, source, thing):
    """Return how much a thing adds to the size of its picture."""
    fields = schema.kind_of(thing.kind).fields
    return 1 + sum([content_size(source, field, thing.contents[field.name]) for field in fields])


def content_size(source, field, content):
    """Return how much the content of a field adds to the size of its picture."""
    if is_list(field.shape):
        return 1 + len(told_content(source, field, content))
    return 1 + len(content) if isinstance(content, str) else 1
