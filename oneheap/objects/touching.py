"""What the standing edits of a view touched."""


class Touch:
    """What edits did to one object; `names` are the fields that count as set."""

    def __init__(self, number, made, gone, names):
        self.number = number
        self.made = made
        self.gone = gone
        self.names = list(names)

    def __eq__(self, other):
        if not isinstance(other, Touch) or self.number != other.number:
            return False
        return self.made == other.made and self.gone == other.gone and self.names == other.names


def touched(view):
    """Return the list of the touches of a view, by ascending numbers."""
    made = {}
    gone = {}
    names = {}
    for edit in view.edits:
        for number in edit.made:
            made[number] = True
        for number, name in edit.named:
            found = names.setdefault(number, [])
            if name not in found:
                found.append(name)
        for number, thing in edit.things.items():
            if thing is None:
                gone[number] = True
    touches = []
    for number in sorted(set([*made, *gone, *names])):
        if number in gone and number not in made:
            touches.append(Touch(number, False, True, []))
        elif number not in gone:
            touches.append(Touch(number, number in made, False, names.get(number, [])))
    return touches
