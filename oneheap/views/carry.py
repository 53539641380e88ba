"""Things carried by a step from one of its versions to the other one."""

from oneheap.objects.thing import Thing
from oneheap.schemas.sorts import is_link
from oneheap.steps.lines import ChangeField, GoneField, JoinKinds, RenameField, Replace, SplitKind
from oneheap.steps.younger import line_having, line_taking
from oneheap.views.fields import FirstContent, GroupValue, HeldValue, KeptContent, MadeValue, TellingText, told_kind


def young_thing(step, thing, old, touched):
    """Return the pair of an elder thing as the younger version has it and its fields that count as set, or None."""
    line = line_taking(step.standing, thing.kind)
    if isinstance(line, SplitKind):
        name = told_kind(line, thing.contents[line.field])
    else:
        name = step.young_kin(thing.kind)[0]
    if name is None:
        return None
    far = step.younger.kind_of(name)
    return carried(far, young_sources(step, step.elder.kind_of(thing.kind), far), thing, old, touched)


def elder_thing(step, thing, old, touched):
    """Return the pair of a younger thing as the elder version has it and its fields that count as set, or None."""
    kin = step.elder_kin(thing.kind)
    if kin == [None]:
        return None
    line = line_taking(step.standing, kin[0])
    name = told_kind(line, thing.contents[line.field]) if isinstance(line, JoinKinds) else kin[0]
    far = step.elder.kind_of(name)
    return carried(far, elder_sources(step, line, far), thing, old, touched)


def first_thing(step, thing):
    """Return what is told at first of an elder thing in the younger version, or None."""
    found = young_thing(step, thing, None, [])
    return None if found is None else found[0]


def first_elder_thing(step, thing):
    """Return what is told at first of a younger thing in the elder version, or None."""
    found = elder_thing(step, thing, None, [])
    return None if found is None else found[0]


def carried(far, sources, thing, old, touched):
    """Return the pair of a far thing and the list of its fields that count as set."""
    had = old.contents if old is not None and old.kind == far.name else None
    contents = {}
    names = []
    for field in far.fields:
        source = sources[field.name]
        if source.counts(thing, had, touched):
            contents[field.name] = source.told(thing, had)
            names.append(field.name)
        else:
            contents[field.name] = had[field.name]
    return Thing(far.name, contents), names


def young_sources(step, near, far):
    """Return the sources of the fields of a younger kind that comes of an elder one."""
    line = line_taking(step.standing, near.name)
    if line is None:
        return kept_sources(step, near)
    sources = {}
    for field in far.fields:
        is_there = near.field_of(field.name) is not None
        sources[field.name] = KeptContent(field.name) if is_there else FirstContent(field.shape, None)
    if isinstance(line, JoinKinds):
        # A branch's kind may have a field with the name of the telling one only if the step has a fault.
        sources[line.field] = TellingText(line)
    return sources


def kept_sources(step, near):
    """Return the sources of the younger fields of a kept kind."""
    sources = {}
    for field in near.fields:
        line = line_having(step.standing, near.name, field.name)
        if line is None:
            sources[field.name] = KeptContent(field.name)
        elif isinstance(line, RenameField):
            sources[line.goal] = KeptContent(field.name)
        elif isinstance(line, ChangeField):
            sources[field.name] = changed_source(field.name, line.shape, line.otherwise)
        elif isinstance(line, Replace):
            for place, made in enumerate(line.made_fields):
                sources[made.name] = MadeValue(line, place)
    for line in step.standing:
        if line.kind_added_to() == near.name:
            sources[line.field] = FirstContent(line.shape, line.first)
    return sources


def changed_source(name, shape, otherwise):
    """Return the source of a changed field that has now the given shape."""
    return KeptContent(name) if is_link(shape) else HeldValue(name, shape, otherwise)


def elder_sources(step, line, far):
    """Return the sources of the fields of an elder kind that the given line takes, or none does."""
    sources = {field.name: elder_source(step, far, field) for field in far.fields}
    if isinstance(line, SplitKind):
        sources[line.field] = TellingText(line)
    return sources


def elder_source(step, far, field):
    """Return the source of an elder field that does not tell branches."""
    line = line_having(step.standing, far.name, field.name)
    if isinstance(line, RenameField):
        return KeptContent(line.goal)
    if isinstance(line, ChangeField):
        return changed_source(field.name, field.shape, line.back)
    if isinstance(line, GoneField):
        return FirstContent(field.shape, line.first)
    if isinstance(line, Replace):
        return GroupValue(line, [far.field_of(name).shape for name in line.group], line.group.index(field.name))
    return KeptContent(field.name)
