"""Points [109] to [114]: what a reader knows, its requests and its companies."""

import random
import unittest

from helper import thing
from oneheap.objects.source import PictureSource
from oneheap.reading.reader import Reader, Request


class AskedSource:
    """A source that notes what it is asked."""

    def __init__(self, things):
        self.things = things
        self.source = PictureSource(things)
        self.asked = []

    def thing(self, number):
        self.asked.append(number)
        return self.source.thing(number)

    def referrers(self, number, kind, field):
        self.asked.append((number, kind, field))
        return self.source.referrers(number, kind, field)

    def numbers(self, kind):
        self.asked.append(kind)
        return self.source.numbers(kind)

    def alike(self, kind, names, amounts):
        self.asked.append((kind, tuple(names), tuple(amounts)))
        return self.source.alike(kind, names, amounts)


def picture():
    found = {number: thing("A", n=number - 1, r=number - 1, l=[number + 1, 1]) for number in range(1, 30)}
    found[30] = thing("B", r=3)
    return found


class RequestTest(unittest.TestCase):
    def test_request(self):
        numbers = [1, 2]
        request = Request("object", numbers)
        numbers.append(3)
        self.assertEqual((request.what, request.numbers), ("object", [1, 2]))
        self.assertTrue(request == Request("object", (1, 2)))
        for other in (Request("object", [2, 1]), Request("numbers A", [1, 2]), ("object", [1, 2]), None):
            self.assertFalse(request == other)


class ReaderCase(unittest.TestCase):
    def setUp(self):
        self.base = AskedSource(picture())
        self.reader = Reader(self.base)

    def requests(self, *wanted):
        found = self.reader.take_requests()
        self.assertEqual([(request.what, request.numbers) for request in found], list(wanted))


class SourceTest(ReaderCase):
    def test_it_is_a_source_over_its_base(self):
        self.assertIs(self.reader.base, self.base)
        other = PictureSource(picture())
        for number in (1, 5, 30, 31):
            self.assertEqual(self.reader.thing(number), other.thing(number))
            self.assertEqual(self.reader.referrers(number, "A", "r"), other.referrers(number, "A", "r"))
            self.assertEqual(self.reader.referrers(number, "A", "l"), other.referrers(number, "A", "l"))
        for kind in ("A", "B", "C"):
            self.assertEqual(self.reader.numbers(kind), other.numbers(kind))
        self.assertEqual(self.reader.alike("A", ["n", "r"], [3, 3]), [4])
        self.assertEqual(self.reader.alike("A", ["n"], [77]), [])

    def test_what_is_known_makes_no_request(self):
        for _ in range(3):
            self.assertEqual(self.reader.thing(4), thing("A", n=3, r=3, l=[5, 1]))
            self.assertIsNone(self.reader.thing(77))
            self.assertEqual(self.reader.referrers(4, "A", "r"), [5])
        self.assertEqual(self.base.asked, [4, 77, (4, "A", "r")])
        self.requests(("object", [4]), ("object", [77]), ("referrers A.r", [4]))
        self.requests()

    def test_knows(self):
        self.assertIs(self.reader.knows(4), False)
        self.reader.thing(4)
        self.reader.thing(77)
        self.reader.referrers(5, "A", "r")
        self.assertIs(self.reader.knows(4), True)
        self.assertIs(self.reader.knows(77), True)
        self.assertIs(self.reader.knows(5), False)
        self.assertEqual(self.base.asked, [4, 77, (5, "A", "r")])

    def test_numbers_and_alike_are_asked_each_time(self):
        for _ in range(2):
            self.assertEqual(self.reader.numbers("B"), [30])
            self.assertEqual(self.reader.alike("A", ["n", "r"], [3, 3]), [4])
        self.requests(*[("numbers B", []), ("alike A n, r", [])] * 2)
        self.assertEqual(self.reader.known_count(), 0)

    def test_what_is_known_does_not_change(self):
        found = self.reader.thing(4)
        found.contents["l"].append(9)
        held = self.reader.referrers(4, "A", "r")
        held.append(9)
        self.base.things[4].contents["n"] = 9
        self.base.things[9].contents["r"] = 4
        self.assertEqual(self.reader.thing(4), thing("A", n=3, r=3, l=[5, 1]))
        self.assertEqual(self.reader.referrers(4, "A", "r"), [5])
        self.assertEqual(self.base.things[4].contents["l"], [5, 1])

    def test_referrers_are_known_by_kind_and_field(self):
        for kind, field in (("A", "r"), ("B", "r"), ("A", "l"), ("A", "r")):
            self.reader.referrers(3, kind, field)
        self.requests(("referrers A.r", [3]), ("referrers B.r", [3]), ("referrers A.l", [3]))

    def test_requests_are_taken_once_and_not_shared(self):
        self.reader.thing(4)
        found = self.reader.take_requests()
        found.append(1)
        self.assertEqual(self.reader.take_requests(), [])


class CompanyTest(ReaderCase):
    def test_alone(self):
        self.assertEqual(self.reader.company(4), [4])

    def test_together(self):
        self.assertIsNone(self.reader.together([5, 3, 5, 4, 3]))
        for number in (3, 4, 5):
            self.assertEqual(self.reader.company(number), [5, 3, 4])
        self.assertEqual(self.reader.company(6), [6])
        self.reader.together([])
        self.assertEqual(self.reader.company(4), [5, 3, 4])

    def test_the_last_time_counts(self):
        self.reader.together([5, 3, 4])
        self.reader.together([4, 6])
        self.assertEqual([self.reader.company(number) for number in (3, 4, 5, 6)], [[5, 3, 4], [4, 6], [5, 3, 4], [4, 6]])
        self.reader.together([5])
        self.assertEqual([self.reader.company(number) for number in (3, 5)], [[5, 3, 4], [5]])

    def test_nothing_is_shared(self):
        numbers = [5, 3]
        self.reader.together(numbers)
        numbers.append(4)
        self.reader.company(5).append(6)
        self.assertEqual((self.reader.company(5), self.reader.company(3)), ([5, 3], [5, 3]))

    def test_one_request_for_a_company(self):
        self.reader.together([5, 3, 77, 4])
        self.reader.thing(4)
        for number in (3, 4, 5, 77):
            self.assertTrue(self.reader.knows(number))
            self.assertEqual(self.reader.thing(number), picture().get(number))
        self.requests(("object", [3, 4, 5, 77]))

    def test_what_is_known_is_left_out(self):
        self.reader.thing(3)
        self.reader.together([5, 3, 4])
        self.reader.thing(5)
        self.requests(("object", [3]), ("object", [4, 5]))

    def test_the_company_of_the_needed_number_counts(self):
        self.reader.together([5, 3])
        self.reader.together([3, 7])
        self.reader.thing(5)
        self.requests(("object", [3, 5]))
        self.reader.thing(7)
        self.requests(("object", [7]))

    def test_at_most_ten_the_least_first(self):
        self.reader.together(list(range(25, 2, -1)))
        self.reader.thing(20)
        self.requests(("object", [3, 4, 5, 6, 7, 8, 9, 10, 11, 20]))
        self.reader.thing(4)
        self.requests()
        self.reader.thing(12)
        self.requests(("object", list(range(12, 20)) + [21, 22]))
        self.reader.thing(25)
        self.requests(("object", [23, 24, 25]))

    def test_ten_are_one_request(self):
        self.reader.together(list(range(1, 11)))
        self.reader.thing(10)
        self.requests(("object", list(range(1, 11))))

    def test_referrers_likewise(self):
        self.reader.together(list(range(20, 3, -1)))
        self.reader.referrers(9, "A", "l")
        self.reader.referrers(18, "A", "r")
        self.requests(("referrers A.l", list(range(4, 14))), ("referrers A.r", list(range(4, 13)) + [18]))
        self.reader.referrers(5, "A", "l")
        self.reader.thing(5)
        self.reader.referrers(20, "A", "l")
        self.requests(("object", list(range(4, 14))), ("referrers A.l", list(range(14, 21))))

    def test_numbers_that_come_together_make_no_request(self):
        self.reader.together([1, 2, 3])
        self.assertEqual(self.base.asked, [])
        self.requests()


class BoundedTest(ReaderCase):
    def test_what_counts(self):
        self.assertEqual(self.reader.known_count(), 0)
        self.reader.together([1, 2, 3])
        self.assertEqual(self.reader.known_count(), 3)
        self.reader.together([3, 4])
        self.assertEqual(self.reader.known_count(), 4)
        self.reader.together([9])
        self.assertEqual(self.reader.known_count(), 5)
        self.reader.thing(1)
        self.assertEqual(self.reader.known_count(), 5 + 3)
        self.reader.thing(77)
        self.assertEqual(self.reader.known_count(), 5 + 4)
        self.reader.referrers(1, "A", "r")
        self.reader.referrers(9, "A", "r")
        self.reader.referrers(9, "A", "l")
        self.assertEqual(self.reader.known_count(), 5 + 4 + 3 + 1 + 1)

    def test_bounded_at_60_and_at_61(self):
        for number in range(1, 61):
            self.reader.thing(number)
        self.assertEqual(self.reader.known_count(), 60)
        self.assertIsNone(self.reader.bounded())
        self.assertTrue(self.reader.knows(60))
        self.reader.together([3])
        self.assertEqual(self.reader.known_count(), 61)
        self.assertTrue(self.reader.knows(60))
        self.reader.bounded()
        self.assertEqual((self.reader.known_count(), self.reader.knows(60)), (0, False))

    def test_forget(self):
        self.reader.together([1, 2])
        self.reader.thing(1)
        self.reader.referrers(5, "A", "r")
        self.assertIsNone(self.reader.forget())
        self.assertEqual((self.reader.known_count(), self.reader.knows(1), self.reader.company(1)), (0, False, [1]))
        self.requests(("object", [1, 2]), ("referrers A.r", [5]))
        self.reader.thing(1)
        self.reader.referrers(5, "A", "r")
        self.requests(("object", [1]), ("referrers A.r", [5]))

    def test_answers_do_not_depend_on_what_is_known(self):
        rnd = random.Random(5)
        other = PictureSource(picture())
        for _ in range(400):
            number = rnd.randint(1, 35)
            self.assertEqual(self.reader.thing(number), other.thing(number))
            number = rnd.randint(1, 35)
            self.assertEqual(self.reader.referrers(number, "A", "l"), other.referrers(number, "A", "l"))
            self.reader.together([rnd.randint(1, 40) for _ in range(rnd.randint(0, 14))])
            self.reader.bounded()
        self.assertTrue(all(0 < len(request.numbers) <= 10 and request.numbers == sorted(set(request.numbers))
                            for request in self.reader.take_requests()))


if __name__ == "__main__":
    unittest.main()
