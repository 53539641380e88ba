"""What becomes of the other versions when one at an end of the line leaves it."""

from oneheap.errors import NotAtAnEnd, OnlyVersion
from oneheap.heap.line import Line, Version
from oneheap.heap.spreading import heap_without
from oneheap.objects.constraints import constraints_against
from oneheap.schemas.schema import constraints_of


def check_at_an_end(line, place):
    """Refuse the index of a version that is the only one of the line, or does not stand at an end of it."""
    if len(line.versions) == 1:
        raise OnlyVersion()
    if place != 0 and place != len(line.versions) - 1:
        raise NotAtAnEnd()


def neighbour_of(line, place):
    """Return the only neighbour of the version with an index, which stands at an end of the line."""
    return line.versions[1] if place == 0 else line.versions[place - 1]


def staying_line(line, number):
    """Return the line without the version with a number, which stands at an end of it."""
    versions = [version for version in line.versions if version.number != number]
    first = versions[0]
    return Line([Version(first.number, first.schema, None, first.shut), *versions[1:]])


def carried_constraints(line):
    """Return the constraints of the first version of a line that all its steps carry, one after the other."""
    first = [text for kind in line.versions[0].schema.kinds for text in constraints_of(kind)]
    texts = {text: text for text in first}
    for version in line.versions[1:]:
        carried = dict(version.step.carries())
        texts = {elder: carried[text] for elder, text in texts.items() if text in carried}
    return list(texts)


def first_standing(line, heap):
    """Return the pair of the least object of the first version and its first carried constraint against it, or None."""
    carried = carried_constraints(line)
    schema = line.versions[0].schema
    picture = heap.picture_of(line.versions[0].number)
    for number in sorted(picture):
        for text in constraints_against(schema, picture, number):
            if text in carried:
                return number, text
    return None


def heap_at_ending(line, heap, number):
    """Return the heap without the objects that are there in one version alone; all else stays, in this version, too."""
    others = [heap.picture_of(one) for one in line.version_numbers() if one != number]
    alone = [one for one in heap.picture_of(number) if not any([one in picture for picture in others])]
    pictures = {one: heap.picture_of(one) for one in line.version_numbers()}
    pictures[number] = {one: thing for one, thing in heap.picture_of(number).items() if one not in alone}
    return heap_without(line, pictures, alone)


def places_at_ending(heap, places, number, neighbour):
    """Return the places of the objects of the heap that stays if a version ends; its objects go to the neighbour."""
    staying = {one: True for picture in heap.pictures.values() for one in picture}
    return {one: neighbour if place == number else place for one, place in places.items() if one in staying}
