"""Sessions: what programs do with objects."""

from oneheap.errors import (
    SessionClosed, SessionTooLong, SessionTooOld, Told, TooManyObjects, VersionEnded,
)
from oneheap.mapper.script import Entry, standing_places, tell_anew
from oneheap.objects.view import View
from oneheap.queries.deeds import do
from oneheap.reading.company import answered, prepare, read_ahead
from oneheap.reading.reader import Reader

LONGEST_SCRIPT = 60
MOST_OBJECTS = 200
NUMBERS = 1000


class Session:
    """A program's way to the objects that one version sees; `version` and `number` are numbers."""

    def __init__(self, ground, version, number):
        self.ground = ground
        self.version = version
        self.number = number
        self.closed = False
        self.made = 0
        # What refused the last flush, refresh or rebase, as the inspector tells it.
        self.refused = None
        self.schema = ground.version_of(version).schema
        self.start()

    def start(self):
        """Begin with an empty script and no edits at the moment of now."""
        self.script = []
        self.moment = self.ground.now
        self.reader = Reader(self.ground.source_now(self.version))
        self.view = View(self.schema, self.reader)

    def there(self, number):
        """Return whether an object with the number is there."""
        return self.do_deed(("there", number))

    def kind_of(self, number):
        """Return the name of the object's kind."""
        return self.do_deed(("kind_of", number))

    def told(self, number, field):
        """Return the told value of a field that is no list."""
        return self.do_deed(("told", number, field))

    def listed(self, number, field):
        """Return the told list of a list field."""
        return self.do_deed(("listed", number, field))

    def look_up(self, kind, names, amounts):
        """Return the least number of the objects of a kind with these values of a key, or None."""
        return self.do_deed(("look_up", kind, tuple(names), tuple(amounts)))

    def referred(self, number, kind, field):
        """Return the numbers of the objects of a kind that tell the number by a reference or list, ascending."""
        return self.do_deed(("referred", number, kind, field))

    def ask(self, text, parameters):
        """Return the lines of the answer of a query."""
        return self.do_deed(("query", text, parameters))

    def make(self, kind, contents):
        """Make an object of a kind, and return its number."""
        self.check_deed()
        if self.made == MOST_OBJECTS:
            raise TooManyObjects()
        number = NUMBERS * self.number + self.made + 1
        self.do_deed(("make", number, kind, contents))
        self.made += 1
        return number

    def put(self, number, field, amount):
        """Set the content of a field that is no list."""
        self.do_deed(("put", number, field, amount))

    def link(self, number, field, other, behind=None):
        """Put a number into a list, behind another one or ahead of all."""
        self.do_deed(("link", number, field, other, behind))

    def unlink(self, number, field, other):
        """Take a number out of a list that tells it."""
        self.do_deed(("unlink", number, field, other))

    def delete(self, number):
        """Delete an object; return what goes and what is cleared, or a Refusing."""
        return self.do_deed(("delete", number))

    def undo(self):
        """Take the last edit off; return False if none stands."""
        return self.do_deed(("undo",))

    def do_deed(self, deed):
        """Do a deed, and put it into the script with its answer; return what it returns."""
        self.check_deed()
        self.reader.bounded()
        prepare(self.reader, self.view, deed)
        try:
            amount = do(self.view, deed)
        except Told as error:
            self.script.append(Entry(deed, ("error", error.label)))
            self.note_requests(self.reader)
            raise
        answered(self.reader, self.view, deed, amount)
        self.script.append(Entry(deed, ("value", amount)))
        self.note_requests(self.reader)
        return amount

    def check_living(self):
        """Refuse everything if the session or its version is over."""
        if self.closed:
            raise SessionClosed()
        if not self.ground.serves(self.version):
            raise VersionEnded()

    def check_deed(self):
        """Refuse a deed that the session may not do."""
        self.check_living()
        if self.moment not in self.ground.kept:
            raise SessionTooOld()
        if len(self.script) == LONGEST_SCRIPT:
            raise SessionTooLong()

    def note_requests(self, reader):
        """Note the requests that a reader made for this session."""
        self.ground.note(self.number, reader.take_requests())

    def flush(self):
        """Let what was edited become what all see, if all would be told the same now."""
        self.check_living()
        retelling = self.retold(list(range(len(self.script))))
        if retelling.place is not None:
            return "otherwise", retelling.place
        answer = self.ground.flush(self.version, self.number, retelling.view)
        if answer == ("taken",):
            self.refused = None
            self.start()
        else:
            self.refused = answer
        return answer

    def refresh(self):
        """Go on at the moment of now with the same script, if all would be told the same now."""
        return self.go_to_now(list(range(len(self.script))))

    def rebase(self):
        """Go on at the moment of now with the edits that stand, if they would be told the same now."""
        return self.go_to_now(standing_places(self.script))

    def go_to_now(self, places):
        """Go on at the moment of now with the entries at some places of the script, if they would be told the same."""
        self.check_living()
        retelling = self.retold(places)
        if retelling.place is not None:
            return "otherwise", places[retelling.place]
        self.refused = None
        self.script = [self.script[place] for place in places]
        self.moment = self.ground.now
        self.reader = retelling.reader
        self.view = retelling.view
        self.reader.forget()
        return ("taken",)

    def retold(self, places):
        """Tell the entries at some places of the script anew on the heap of now; keep why that is refused."""
        source = self.ground.source_now(self.version)
        retelling = tell_anew(self.schema, source, [self.script[place] for place in places])
        self.note_requests(retelling.reader)
        if retelling.place is not None:
            place = places[retelling.place]
            entry = self.script[place]
            self.refused = ("otherwise", place, entry.deed, entry.answer, retelling.answer)
        return retelling

    def drop(self):
        """Forget the script and the edits, and go on at the moment of now."""
        self.check_living()
        self.refused = None
        self.start()

    def close(self):
        """End the session."""
        self.closed = True

    def ahead(self, numbers, paths):
        """Read ahead from numbers along paths of fields."""
        self.check_living()
        if self.moment in self.ground.kept:
            self.reader.bounded()
            read_ahead(self.reader, self.schema, numbers, paths)
            self.note_requests(self.reader)

    def forget(self):
        """Know nothing any more."""
        self.check_living()
        self.reader.forget()

    def lay_anew(self):
        """Know nothing any more, and read from the rows that are kept now, if this version has some at the moment."""
        reader = self.reader
        reader.forget()
        if self.moment in self.ground.kept and self.ground.serves(self.version):
            reader.base = self.ground.kept[self.moment].source_of(self.version)
