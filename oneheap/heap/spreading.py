"""Changes of one picture that spread to the others, and pictures of versions that come and go."""

from oneheap.heap.heap import Heap, without_numbers
from oneheap.objects.thing import picture_copy
from oneheap.objects.touching import Touch
from oneheap.views.carry import elder_thing, first_thing, young_thing


def spread(line, heap, number, picture, touches):
    """Return what comes of a heap if the picture of a version becomes the given one by edits with these touches."""
    pictures = {one: heap.picture_of(one) for one in line.version_numbers()}
    pictures[number] = picture
    place = line.place_of(number)
    near, moved = picture, touches
    for version in line.versions[place + 1:]:
        near, moved = follow(version.step, True, pictures[version.number], near, moved)
        pictures[version.number] = near
    near, moved = picture, touches
    for at in range(place, 0, -1):
        elder = line.versions[at - 1].number
        near, moved = follow(line.versions[at].step, False, pictures[elder], near, moved)
        pictures[elder] = near
    return heap_without(line, pictures, [touch.number for touch in touches if touch.gone])


def heap_without(line, pictures, gone):
    """Return the heap of pictures of versions of the line, without the numbers of the objects that are gone."""
    return Heap({one: without_numbers(line.schema_of(one), picture, gone) for one, picture in pictures.items()})


def follow(step, to_young, far, near, touches):
    """Return the pair of a new picture that has followed the near one across a step, and the list of its touches."""
    picture = picture_copy(far)
    far_touches = []
    for touch in sorted(touches, key=lambda one: one.number):
        found = followed(step, to_young, picture, near, touch)
        if found is not None:
            far_touches.append(found)
    return picture, far_touches


def followed(step, to_young, picture, near, touch):
    """Let one object of a picture follow the near one; return its touch, or None."""
    number = touch.number
    old = picture.get(number)
    if touch.gone:
        return gone_touch(picture, number)
    if to_young:
        carried = young_thing(step, near[number], old, touch.names)
    else:
        carried = elder_thing(step, near[number], old, touch.names)
    if carried is None:
        return None if old is None else gone_touch(picture, number)
    thing, names = carried
    picture[number] = thing
    if old is not None and old.kind == thing.kind and len(names) == 0:
        return None
    return Touch(number, old is None, False, names)


def gone_touch(picture, number):
    """Take an object out of a picture, if it is there; return its touch."""
    if number in picture:
        del picture[number]
    return Touch(number, False, True, [])


def with_version(line, heap):
    """Return the heap with a picture for the last version of the line, for which it has none yet."""
    version = line.versions[-1]
    picture = {}
    for number, thing in heap.picture_of(line.versions[-2].number).items():
        found = first_thing(version.step, thing)
        if found is not None:
            picture[number] = found
    return Heap({**heap.pictures, version.number: picture})


def without_version(line, heap, number):
    """Return the heap without the picture of a version, and without the objects that no other picture has."""
    pictures = {one: picture for one, picture in heap.pictures.items() if one != number}
    gone = [one for one in heap.picture_of(number) if not any([one in picture for picture in pictures.values()])]
    return heap_without(line, pictures, gone)
