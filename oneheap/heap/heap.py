"""Heaps: one picture for each version of a line."""

from oneheap.objects.edits import without_any
from oneheap.objects.thing import Thing, picture_copy
from oneheap.schemas.sorts import is_link


class Heap:
    """Pictures by the numbers of their versions; a number means the same object in all of them."""

    def __init__(self, pictures):
        self.pictures = {number: picture_copy(picture) for number, picture in pictures.items()}

    def picture_of(self, number):
        """Return the picture of the version with this number: the dict of the heap itself."""
        return self.pictures[number]

    def copied(self):
        """Return an equal heap that shares nothing with this one."""
        return Heap(self.pictures)

    def __eq__(self, other):
        return isinstance(other, Heap) and self.pictures == other.pictures


def without_numbers(schema, picture, gone):
    """Return a new picture in which the numbers that are gone are taken out of all references and lists."""
    return {number: thing_without(schema, thing, gone) for number, thing in picture.items()}


def thing_without(schema, thing, gone):
    """Return a thing like the given one, without the numbers that are gone in its references and lists."""
    contents = {}
    for name, content in thing.contents.items():
        field = schema.field_of(thing.kind, name)
        contents[name] = without_any(content, gone) if is_link(field.shape) else content
    return Thing(thing.kind, contents)
