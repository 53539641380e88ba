"""Things: objects as one version sees them, and pictures of them."""

from oneheap.schemas.sorts import blank, is_list, is_reference


class Thing:
    """An object as one version sees it: the name of its kind, and a content for each field."""

    def __init__(self, kind, contents):
        self.kind = kind
        self.contents = {name: content_copy(content) for name, content in contents.items()}

    def copied(self):
        """Return an equal thing that shares nothing with this one."""
        return Thing(self.kind, self.contents)

    def __eq__(self, other):
        return isinstance(other, Thing) and self.kind == other.kind and self.contents == other.contents


def content_copy(content):
    """Return an equal content that is no list of anyone else."""
    return list(content) if isinstance(content, list) else content


def blank_thing(kind):
    """Return the thing of a kind with nothing in each field."""
    return Thing(kind.name, {field.name: blank(field.shape) for field in kind.fields})


def holds_number(content, number):
    """Return whether the content is the number or a list with it."""
    if isinstance(content, list):
        return number in content
    return content == number


def told_content(source, field, content):
    """Return what is told of the content of a field: a value, or a new list."""
    if is_list(field.shape):
        return [number for number in content if is_one_of(source, number, field.shape.kinds)]
    if is_reference(field.shape):
        return content if content is not None and is_one_of(source, content, field.shape.kinds) else None
    return content


def is_one_of(source, number, kinds):
    """Return whether an object with this number is there and has one of the kinds."""
    thing = source.thing(number)
    return thing is not None and thing.kind in kinds


def picture_copy(picture):
    """Return an equal picture that shares nothing with the given one."""
    return {number: thing.copied() for number, thing in picture.items()}
