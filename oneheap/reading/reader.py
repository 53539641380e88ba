"""Readers: sources that know what was read before, and ask for several things by one request."""

MOST_ASKED = 10
MOST_KNOWN = 60


class Request:
    """A request: what it asks for, and the numbers for which it asks."""

    def __init__(self, what, numbers):
        self.what = what
        self.numbers = list(numbers)

    def __eq__(self, other):
        return isinstance(other, Request) and self.what == other.what and self.numbers == other.numbers


class Reader:
    """A source over another one, its base."""

    def __init__(self, base):
        self.base = base
        self.requests = []
        self.things = {}
        self.holders = {}
        self.companies = {}

    def thing(self, number):
        """Return the thing with this number, or None."""
        if number not in self.things:
            asked = asked_numbers(number, [one for one in self.company(number) if one not in self.things])
            self.note("object", asked)
            for one in asked:
                self.things[one] = thing_copy(self.base.thing(one))
        return thing_copy(self.things[number])

    def numbers(self, kind):
        """Return the numbers of the objects of a kind, ascending."""
        self.note(f"numbers {kind}", [])
        return list(self.base.numbers(kind))

    def referrers(self, number, kind, field):
        """Return the numbers of the objects of a kind whose content of the field holds the number, ascending."""
        if (number, kind, field) not in self.holders:
            company = self.company(number)
            asked = asked_numbers(number, [one for one in company if (one, kind, field) not in self.holders])
            self.note(f"referrers {kind}.{field}", asked)
            for one in asked:
                self.holders[(one, kind, field)] = list(self.base.referrers(one, kind, field))
        return list(self.holders[(number, kind, field)])

    def alike(self, kind, names, amounts):
        """Return the numbers of the objects of a kind whose contents of the fields are the amounts, ascending."""
        self.note(f"alike {kind} " + ", ".join(names), [])
        return list(self.base.alike(kind, names, amounts))

    def note(self, what, numbers):
        """Note a request."""
        self.requests.append(Request(what, numbers))

    def knows(self, number):
        """Return whether the thing of the number is known."""
        return number in self.things

    def company(self, number):
        """Return the list of the numbers of the company of a number, itself among them."""
        return list(self.companies.get(number, [number]))

    def together(self, numbers):
        """Let numbers come together."""
        company = list({number: True for number in numbers})
        for number in company:
            self.companies[number] = company

    def known_count(self):
        """Return how many things are known."""
        return len(self.things) + len(self.holders) + len(self.companies)

    def bounded(self):
        """Forget everything if more is known than may be."""
        if self.known_count() > MOST_KNOWN:
            self.forget()

    def forget(self):
        """Forget everything but the requests."""
        self.things = {}
        self.holders = {}
        self.companies = {}

    def take_requests(self):
        """Return the requests that were made since the last call."""
        found = self.requests
        self.requests = []
        return found


def thing_copy(thing):
    """Return an equal thing that shares nothing with the given one; None stays None."""
    return None if thing is None else thing.copied()


def asked_numbers(number, unknown):
    """Return the needed number and the least of the others that are not known, as many as one request takes."""
    others = sorted([one for one in unknown if one != number])
    return sorted([number, *others[:MOST_ASKED - 1]])
