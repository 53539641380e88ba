"""Which needs go ahead of others, and the order in which they are made."""

from heapq import heappop, heappush

from oneheap.planner.needs import main_names, places_in_order
from oneheap.store.rows import key_values, linked_numbers


class Effect:
    """What a need does with numbers and with values of keys.

    `inserted` and `deleted` are the number of its row if it inserts it into, or deletes it from, a main table, or None.
    The others are lists of numbers, and of pairs of the name of a key and a value, that it lets go of or takes.
    """

    def __init__(self, named, mains, need):
        in_main = need.table in mains
        self.inserted = need.number if in_main and need.before is None else None
        self.deleted = need.number if in_main and need.behind is None else None
        there, wanted = numbers_of(named, need.before), numbers_of(named, need.behind)
        self.lets = [number for number in there if number not in wanted]
        self.takes = [number for number in wanted if number not in there]
        there, wanted = values_of(named, need.before), values_of(named, need.behind)
        self.values_let = [value for value in there if value not in wanted]
        self.values_taken = [value for value in wanted if value not in there]


def numbers_of(named, row):
    """Return a dict with the numbers to which a row refers; there are none if it is None."""
    return {} if row is None else {number: True for _, number in linked_numbers(named[row.table], row.cells)}


def values_of(named, row):
    """Return a dict with the pairs of the name of a key and the value of a row; there are none if it is None."""
    return {} if row is None else {value: True for value in key_values(named[row.table], row.cells)}


def effects_of(tables, needs):
    """Return the list of the effects of needs."""
    named = {table.name: table for table in tables}
    mains = main_names(tables)
    return [Effect(named, mains, need) for need in needs]


def goes_ahead(tables, first, second):
    """Return whether the first need goes ahead of the second one."""
    if first == second:
        return False
    one, other = effects_of(tables, [first, second])
    if one.inserted is not None and one.inserted in other.takes:
        return True
    if other.deleted is not None and other.deleted in one.lets:
        return True
    return any([value in other.values_taken for value in one.values_let])


class NeedOrder:
    """The order of needs: `freed` has the indexes of those that are freed, `made` those of all as they are made."""

    def __init__(self, tables, needs):
        self.needs = list(needs)
        self.followers = all_followers(effects_of(tables, needs))
        self.freed = []
        self.made = self.all_made()
        # What stands in a ring, or waits for one, is not made.
        if len(self.made) < len(self.needs):
            self.free_rings(places_in_order(tables, needs))
            self.made = self.all_made()

    def free_rings(self, places):
        """Free the first need that stands in a ring until there are none; `places` has the indexes in order."""
        # To free a need takes away what goes ahead only, so the needs before it do not come into a ring again.
        for place in places:
            if stands_in_ring(self.followers, place):
                self.freed.append(place)
                self.free(place)
        self.freed = sorted(self.freed)

    def free(self, place):
        """Free a need: an insert has nothing ahead of it any more, another need goes ahead of nothing."""
        if self.needs[place].before is None:
            self.followers = [without_place(row, place) for row in self.followers]
        else:
            self.followers[place] = []

    def all_made(self):
        """Return the indexes of needs as they are made: the first one next of which all that go ahead are made."""
        waits = [0 for _ in self.needs]
        for row in self.followers:
            for place in row:
                waits[place] += 1
        ready = []
        for place, many in enumerate(waits):
            if many == 0:
                heappush(ready, place)
        made = []
        while len(ready) > 0:
            place = heappop(ready)
            made.append(place)
            for other in self.followers[place]:
                waits[other] -= 1
                if waits[other] == 0:
                    heappush(ready, other)
        return made


def without_place(row, place):
    """Return a list of indexes without one of them."""
    return [other for other in row if other != place]


def all_followers(effects):
    """Return a list with, for each effect, the list of the indexes of those ahead of which it goes, each once."""
    takers = places_by([effect.takes for effect in effects])
    deleters = places_by([[] if effect.deleted is None else [effect.deleted] for effect in effects])
    value_takers = places_by([effect.values_taken for effect in effects])
    rows = []
    for at, effect in enumerate(effects):
        found = [] if effect.inserted is None else list(takers.get(effect.inserted, []))
        for number in effect.lets:
            found.extend(deleters.get(number, []))
        for value in effect.values_let:
            found.extend(value_takers.get(value, []))
        rows.append([place for place in sorted(set(found)) if place != at])
    return rows


def places_by(rows):
    """Return the dict from what the rows hold to the list of the indexes of the rows that hold it."""
    found = {}
    for at, row in enumerate(rows):
        for one in row:
            found.setdefault(one, []).append(at)
    return found


def stands_in_ring(followers, place):
    """Return whether a way leads from a need over its followers back to it."""
    known = {}
    left = list(followers[place])
    while len(left) > 0:
        one = left.pop()
        if one == place:
            return True
        if one not in known:
            known[one] = True
            left.extend(followers[one])
    return False


def freed_of(tables, needs):
    """Return the indexes of the needs that are freed, ascending."""
    return NeedOrder(tables, needs).freed
