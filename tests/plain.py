"""A plain model of a mapper: pictures and scripts alone, without rows, readers and plans; and deeds drawn for both."""

from oneheap.errors import Told
from oneheap.heap.heap import Heap
from oneheap.heap.line import Line, Version
from oneheap.heap.spreading import spread, with_version, without_version
from oneheap.objects.constraints import constraints_against, first_against, picture_size
from oneheap.objects.source import PictureSource
from oneheap.objects.touching import touched
from oneheap.objects.view import Refusing, View
from oneheap.queries.lines import lines_by
from oneheap.queries.reading import read_query
from oneheap.schemas.reading import read_schema
from oneheap.schemas.schema import constraints_of
from oneheap.steps.step import read_step


def plain_answer(view, deed):
    """Return the answer of a deed; a query looks at all objects of its kind."""
    try:
        if deed[0] != "query":
            return ("value", view.do(deed))
        query = read_query(view.schema, deed[1])
        lines = lines_by(view, query, deed[2], view.numbers(query.kind))
        return ("error", "too many lines") if len(lines) > 20 else ("value", lines)
    except Told as error:
        return ("error", error.label)


class PlainSession:
    def __init__(self, model, version, number):
        self.model, self.version, self.number, self.made = model, version, number, 0
        self.drop()

    def picture(self, moment):
        return self.model.heaps[moment].picture_of(self.version)

    def drop(self):
        self.refused = None
        self.moment = len(self.model.heaps) - 1
        self.script = []
        self.lay(self.moment)

    def lay(self, moment):
        self.view = View(self.model.line.schema_of(self.version), PictureSource(self.picture(moment)))

    def do(self, deed):
        answer = plain_answer(self.view, deed)
        self.script.append((deed, answer))
        if deed[0] == "make" and answer[0] == "value":
            self.made += 1
        return answer

    def anew(self, places):
        """Return the view over now, and the place in the script and the answer where it is told otherwise."""
        view = View(self.view.schema, PictureSource(self.picture(len(self.model.heaps) - 1)))
        for place in places:
            answer = plain_answer(view, self.script[place][0])
            if answer != self.script[place][1]:
                return view, place, answer
        return view, None, None

    def flush(self):
        view, place, answer = self.anew(range(len(self.script)))
        if place is not None:
            self.refused = ("otherwise", place) + self.script[place] + (answer,)
            return ("otherwise", place)
        base = self.picture(len(self.model.heaps) - 1)
        picture, touches = view.picture(base), touched(view)
        against = first_against(view.schema, picture, touches)
        if against is not None:
            self.refused = ("against", against[0], against[1])
            return self.refused
        if 400 < picture_size(view.schema, picture) > picture_size(view.schema, base):
            self.refused = ("too large",)
            return self.refused
        heap = spread(self.model.line, self.model.heaps[-1], self.version, picture, touches)
        if heap != self.model.heaps[-1]:
            self.model.heaps.append(heap)
        self.drop()
        return ("taken",)

    def go_on(self, places):
        view, place, answer = self.anew(places)
        if place is not None:
            self.refused = ("otherwise", place) + self.script[place] + (answer,)
            return ("otherwise", place)
        self.refused = None
        self.script = [self.script[one] for one in places]
        self.moment = len(self.model.heaps) - 1
        self.view = view
        return ("taken",)

    def refresh(self):
        return self.go_on(list(range(len(self.script))))

    def rebase(self):
        standing = []
        for place, (deed, answer) in enumerate(self.script):
            if deed == ("undo",) and answer[1]:
                standing.pop()
            elif deed[0] in ("make", "put", "link", "unlink", "delete") and answer[0] == "value":
                if not isinstance(answer[1], Refusing):
                    standing.append(place)
        return self.go_on(standing)


class PlainMapper:
    def __init__(self, text):
        self.line = Line([Version(1, read_schema(text), None)])
        self.heaps = [Heap({1: {}})]
        self.given = 1
        self.sessions = []

    def start_session(self, version, number):
        self.sessions.append(PlainSession(self, version, number))
        return self.sessions[-1]

    def add_version(self, text):
        step = read_step(self.line.versions[-1].schema, text)
        self.given += 1
        self.line = Line(self.line.versions + [Version(self.given, step.younger, step)])
        self.heaps = [with_version(self.line, heap) for heap in self.heaps]
        self.lay_all()
        return self.given

    def lay_all(self):
        """Let the views of all sessions lie on the pictures as they are now, with the edits that they have."""
        for session in self.sessions:
            if self.line.place_of(session.version) is not None:
                session.view.source.things = session.picture(session.moment)

    def end(self, version):
        versions = [one for one in self.line.versions if one.number != version]
        first = versions[0]
        left = without_version(self.line, self.heaps[-1], version)
        carried = {text: text for kind in first.schema.kinds for text in constraints_of(kind)}
        for one in versions[1:]:
            pairs = dict(one.step.carries())
            carried = {text: pairs[last] for text, last in carried.items() if last in pairs}
        picture = left.picture_of(first.number)
        for number in sorted(picture):
            for text in constraints_against(first.schema, picture, number):
                if text in carried:
                    return number, text
        self.heaps = [without_version(self.line, heap, version) for heap in self.heaps]
        self.line = Line([Version(first.number, first.schema, None)] + versions[1:])
        self.lay_all()
        return None


class Drawer:
    """Draws deeds that fit a schema more often than not."""

    WORDS = ["", "a", "ab", "b", "x:y", "p", "q"]

    def __init__(self, rnd):
        self.rnd = rnd

    def number(self, view, kinds):
        """Return the number of an object of one of some kinds, if there is one and if chance will have it."""
        found = [number for kind in kinds for number in view.numbers(kind)]
        return self.rnd.choice(found) if found and self.rnd.random() < 0.95 else self.rnd.choice([77, 1001, 2001, 3002, 5001])

    def any_number(self, view):
        return self.number(view, view.schema.names())

    def value(self, view, shape):
        word = shape.__class__.__name__
        if self.rnd.random() < 0.1:
            return None
        if word == "IntSort":
            return self.rnd.randint(max(shape.low, 0), min(shape.high, 4))
        if word == "TextSort":
            return self.rnd.choice(self.WORDS)
        if word == "ChoiceSort":
            return self.rnd.choice(shape.choices)
        if self.rnd.random() < 0.9 and not any(view.numbers(kind) for kind in shape.kinds):
            return None
        return self.number(view, shape.kinds)

    def thing_field(self, view):
        """Return a number and a field of its kind, as the view sees them without reading through a reader."""
        number = self.any_number(view)
        thing = view.thing(number)
        kind = view.schema.kind_of(thing.kind) if thing is not None else self.rnd.choice(view.schema.kinds)
        fields = [field for field in kind.fields if field.shape.__class__.__name__ != "ListSort"]
        return number, self.rnd.choice(fields) if fields and self.rnd.random() < 0.97 else None

    def contents(self, view, kind):
        found = {}
        for field in kind.fields:
            if field.shape.__class__.__name__ != "ListSort" and (field.needed or self.rnd.random() < 0.7):
                found[field.name] = self.value(view, field.shape)
        return found

    def deed(self, view, session):
        """Return a deed for a session, as its script tells it."""
        rnd = self.rnd
        schema = view.schema
        kind = rnd.choice(schema.kinds)
        word = rnd.choice(["there", "kind_of", "told", "told", "listed", "look_up", "referred", "make", "make", "make", "make", "make",
                           "put", "put", "put", "link", "link", "unlink", "delete", "undo", "query", "query"])
        number, field = self.thing_field(view)
        name = field.name if field is not None else "none"
        if word in ("there", "kind_of", "delete"):
            return (word, number)
        if word == "undo":
            return (word,)
        if word == "make":
            return (word, 1000 * session.number + session.made + 1, kind.name, self.contents(view, kind))
        if word == "put":
            return (word, number, name, self.value(view, field.shape) if field is not None else None)
        if word == "link":
            return self.link(view)
        if word in ("unlink", "listed"):
            number, field, _ = self.list_field(view)
            told = view.thing(number).contents.get(field) if view.there(number) else None
            other = rnd.choice(told) if told and rnd.random() < 0.9 else self.any_number(view)
            return (word, number, field, other) if word == "unlink" else (word, number, field)
        if word == "look_up":
            row = rnd.choice(kind.key_rows) if kind.key_rows else ["none"]
            fields = [kind.field_of(one) for one in row]
            return (word, kind.name, tuple(row), tuple([None if one is None else self.value(view, one.shape) for one in fields]))
        if word == "referred":
            links = [one for one in kind.fields if one.shape.__class__.__name__ in ("RefSort", "ListSort")]
            if not links:
                return (word, number, kind.name, name)
            field = rnd.choice(links)
            return (word, self.number(view, field.shape.kinds), kind.name, field.name)
        if word == "query":
            return self.query(view, kind)
        return (word, number, name)

    def list_field(self, view):
        """Return the number of an object, the name of a list of it, and the kinds of the list."""
        found = []
        for kind in view.schema.kinds:
            for field in kind.fields:
                if field.shape.__class__.__name__ == "ListSort":
                    found.extend([(number, field.name, field.shape.kinds) for number in view.numbers(kind.name)])
        if found and self.rnd.random() < 0.95:
            return self.rnd.choice(found)
        return self.any_number(view), self.rnd.choice(["also", "name", "none"]), []

    def link(self, view):
        number, field, kinds = self.list_field(view)
        other = self.number(view, kinds)
        told = view.thing(number).contents.get(field) if view.there(number) else None
        behind = self.rnd.choice(told) if told and self.rnd.random() < 0.6 else self.rnd.choice([None, None, None, other])
        return ("link", number, field, other, behind)

    def query(self, view, kind):
        rnd = self.rnd
        plain = [one for one in kind.fields if one.shape.__class__.__name__ in ("IntSort", "TextSort", "ChoiceSort")]
        refs = [one for one in kind.fields if one.shape.__class__.__name__ == "RefSort"]
        parts = []
        told = {}
        for field in plain + refs:
            if rnd.random() < 0.3:
                told["p" + str(len(told))] = self.value(view, field.shape)
                parts.append(f"o.{field.name} {rnd.choice(['=', '=', '!='])} :p{len(told) - 1}")
        if rnd.random() < 0.1:
            told["me"] = self.any_number(view)
            parts.append(":me = o")
        where = " where " + rnd.choice([" and ", " and ", " or "]).join(parts) if parts else ""
        if rnd.random() < 0.3 and plain:
            name = rnd.choice(plain).name
            return ("query", f"from {kind.name} o{where} group by o.{name} order by count() down give o.{name}, count()", told)
        lists = [one for one in kind.fields if one.shape.__class__.__name__ == "ListSort"]
        given = ["o"] + [f"o.{one.name}" for one in plain + refs][:3] + [f"count(o.{one.name})" for one in lists][:2]
        order = f" order by o.{rnd.choice(plain).name} down" if plain and rnd.random() < 0.5 else ""
        bound = rnd.choice(["", "", " first 2", " skip 1 first 5"])
        return ("query", f"from {kind.name} o{where}{order} give {', '.join(given)}{bound}", told)
