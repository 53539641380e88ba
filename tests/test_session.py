"""Points [119] to [127]: moments, sessions, deeds, scripts, flush, refresh, rebase, drop and close."""

import inspect
import unittest

from oneheap.errors import (
    Fault, FieldIsList, FieldIsNoLink, FieldIsNoList, ListIsFull, NoParameter, NoSuchField, NoSuchKey, NoSuchKind, NoSuchObject, NoSuchVersion,
    NotLinked, NumberTaken, SessionClosed, SessionTooLong, SessionTooOld, TooManyLines, TooManyObjects, TooManySessions, ValueDoesNotFit,
    VersionEnded, VersionIsShut, WrongParameter,
)
from oneheap.mapper.inspector import take_requests, version_rows, why
from oneheap.mapper.mapper import Mapper
from oneheap.objects.view import Refusing

SCHEMA = ("kind Book { title: text 40; price: int 0..100000; writer: ref Writer; also: list Book; key title; } "
          "kind Writer { name: text 40 not null; boss: ref Writer takes; firm: ref Firm refuses; } kind Firm { n: int 0..9; }")


class SessionCase(unittest.TestCase):
    def setUp(self):
        self.mapper = Mapper(SCHEMA)

    def session(self, number, version=1):
        return self.mapper.start_session(version, number)

    def filled(self):
        """Return a session behind a flush that made the book 1001, the writer 1002 and the firm 1003."""
        first = self.session(1)
        first.make("Book", {"title": "a", "price": 5})
        first.make("Writer", {"name": "w"})
        first.make("Firm", {"n": 3})
        first.put(1001, "writer", 1002)
        self.assertEqual(first.flush(), ("taken",))
        return first


class OpeningTest(unittest.TestCase):
    def test_the_example(self):
        mapper = Mapper("kind Book { title: text 40; price: int 0..100000; }")
        first = mapper.start_session(1, 7)
        book = first.make("Book", {"title": "Notes", "price": 1250})
        self.assertEqual(book, 7001)
        self.assertEqual(first.flush(), ("taken",))
        self.assertEqual(mapper.add_version("rename Book.price to cents;"), 2)
        second = mapper.start_session(2, 8)
        self.assertEqual(second.told(book, "cents"), 1250)
        first.put(book, "price", 990)
        self.assertEqual(first.flush(), ("taken",))
        self.assertEqual(second.told(book, "cents"), 1250)
        second.put(book, "title", "More")
        self.assertEqual(second.flush(), ("otherwise", 0))
        self.assertEqual(second.rebase(), ("taken",))
        self.assertEqual(second.told(book, "cents"), 990)
        self.assertEqual(second.flush(), ("taken",))
        third = mapper.start_session(1, 9)
        self.assertEqual((third.told(book, "title"), third.told(book, "price")), ("More", 990))


class MomentsTest(SessionCase):
    def test_all_is_told_of_one_moment(self):
        first = self.filled()
        second, third = self.session(2), self.session(3)
        first.put(1001, "price", 7)
        second.put(1001, "title", "b")
        self.assertEqual((second.told(1001, "price"), second.told(1001, "title")), (5, "b"))
        self.assertEqual(first.flush(), ("taken",))
        self.assertEqual([one.told(1001, "price") for one in (first, second, third, self.session(4))], [7, 5, 5, 7])
        self.assertEqual([one.told(1001, "title") for one in (first, second, third)], ["a", "b", "a"])

    def flushes(self, session, many):
        for place in range(many):
            session.put(1001, "price", 100 + place)
            self.assertEqual(session.flush(), ("taken",))

    def test_eight_heaps_are_kept(self):
        first = self.filled()
        old = self.session(2)
        self.flushes(first, 7)
        self.assertEqual(old.told(1001, "price"), 5)
        self.flushes(first, 1)
        for call in (lambda: old.told(1001, "price"), lambda: old.make("Firm", {}), lambda: old.undo(), lambda: old.there(5)):
            with self.assertRaises(SessionTooOld):
                call()
        self.assertEqual(self.session(3).told(1001, "price"), 100)

    def test_an_old_session_can_still_go_to_now(self):
        first = self.filled()
        old, other, third = self.session(2), self.session(3), self.session(4)
        old.put(1001, "title", "t")
        other.told(1001, "price")
        self.flushes(first, 9)
        self.assertEqual(other.refresh(), ("otherwise", 0))
        self.assertIsNone(other.ahead([1001], [["writer"]]))
        with self.assertRaises(SessionTooOld):
            other.told(1001, "title")
        self.assertEqual(old.refresh(), ("taken",))
        self.assertEqual((old.told(1001, "title"), old.told(1001, "price")), ("t", 108))
        third.drop()
        self.assertEqual(third.told(1001, "price"), 108)
        self.assertEqual(other.rebase(), ("taken",))
        self.assertEqual(other.told(1001, "price"), 108)

    def test_a_flush_that_changes_nothing_makes_no_heap(self):
        first = self.filled()
        old = self.session(2)
        for _ in range(10):
            first.put(1001, "price", 5)
            first.make("Firm", {"n": 1})
            first.undo()
            self.assertEqual(first.flush(), ("taken",))
        self.assertEqual(old.told(1001, "price"), 5)

    def test_versions_and_moves_make_no_heap(self):
        self.filled()
        old = self.session(2)
        for _ in range(9):
            number = self.mapper.add_version("")
            self.mapper.move(number, 20)
            self.assertIsNone(self.mapper.end(number))
        self.assertEqual(old.told(1001, "price"), 5)


class OpenTest(SessionCase):
    def test_numbers_are_used_once(self):
        first = self.session(5)
        for _ in range(2):
            with self.assertRaises(NumberTaken):
                self.session(5)
            first.close()
        self.session(99)

    def test_at_most_six_are_open(self):
        sessions = [self.session(number) for number in range(1, 7)]
        with self.assertRaises(TooManySessions):
            self.session(7)
        sessions[2].close()
        self.session(7)
        with self.assertRaises(TooManySessions):
            self.session(8)
        sessions[2].close()
        with self.assertRaises(TooManySessions):
            self.session(8)

    def test_sessions_of_shut_and_ended_versions_are_open(self):
        self.mapper.add_version("")
        self.mapper.add_version("")
        for number in range(1, 7):
            self.session(number, 2 if number < 4 else 3)
        self.mapper.shut(2)
        self.mapper.end(3)
        with self.assertRaises(TooManySessions):
            self.session(7)

    def test_the_order_of_the_errors(self):
        self.mapper.add_version("")
        self.mapper.shut(2)
        for number in range(1, 7):
            self.session(number)
        with self.assertRaises(NoSuchVersion):
            self.session(1, 3)
        with self.assertRaises(VersionIsShut):
            self.session(1, 2)
        with self.assertRaises(NumberTaken):
            self.session(1)
        with self.assertRaises(TooManySessions):
            self.session(7)

    def test_a_number_that_was_refused_is_not_used(self):
        for version, error in ((2, NoSuchVersion), (1, None)):
            if error is None:
                self.session(1, version)
            else:
                with self.assertRaises(error):
                    self.session(1, version)

    def test_the_arguments_of_the_methods(self):
        session = self.session(1)
        for name, wanted in (("look_up", "(kind, names, amounts)"), ("link", "(number, field, other, behind=None)"), ("ask", "(text, parameters)"),
                             ("make", "(kind, contents)"), ("ahead", "(numbers, paths)"), ("forget", "()")):
            self.assertEqual(str(inspect.signature(getattr(session, name))), wanted)


class DeedsTest(SessionCase):
    def test_each_deed(self):
        self.filled()
        second = self.session(2)
        self.assertIs(second.there(1001), True)
        self.assertIs(second.there(7), False)
        self.assertEqual(second.kind_of(1002), "Writer")
        self.assertEqual(second.told(1001, "writer"), 1002)
        self.assertEqual(second.listed(1001, "also"), [])
        self.assertEqual(second.look_up("Book", ["title"], ["a"]), 1001)
        self.assertIsNone(second.look_up("Book", ["title"], ["z"]))
        self.assertEqual(second.referred(1002, "Book", "writer"), [1001])
        self.assertEqual(second.ask("from Book b where b.price = :p give b, b.writer.name", {"p": 5}), [[1001, "w"]])
        self.assertEqual(second.make("Book", {"title": "b"}), 2001)
        self.assertIsNone(second.put(2001, "price", 1))
        self.assertIsNone(second.link(2001, "also", 1001))
        self.assertIsNone(second.link(2001, "also", 2001, 1001))
        self.assertEqual(second.listed(2001, "also"), [1001, 2001])
        self.assertIsNone(second.unlink(2001, "also", 1001))
        self.assertIs(second.undo(), True)
        self.assertEqual(second.delete(1001), ([1001], [2001]))
        second.put(1002, "firm", 1003)
        self.assertEqual(second.delete(1003), Refusing(1002, "firm"))
        self.assertEqual(second.flush(), ("taken",))
        third = self.session(3)
        self.assertEqual(third.ask("from Book b give b, b.title, b.price, count(b.also)", {}), [[2001, "b", 1, 1]])
        self.assertEqual(third.told(1002, "firm"), 1003)
        self.assertIs(third.undo(), False)

    def test_numbers_of_objects(self):
        session = self.session(12)
        self.assertEqual([session.make("Firm", {}) for _ in range(2)], [12001, 12002])
        session.undo()
        with self.assertRaises(ValueDoesNotFit):
            session.make("Firm", {"n": 10})
        with self.assertRaises(NoSuchKind):
            session.make("Form", {})
        self.assertEqual(session.make("Firm", {}), 12003)
        session.drop()
        self.assertEqual(session.make("Firm", {}), 12004)
        session.flush()
        self.assertEqual(session.make("Firm", {}), 12005)
        self.assertEqual(session.ask("from Firm f give f", {}), [[12004], [12005]])

    def test_errors_go_into_the_script(self):
        first = self.filled()
        first.link(1001, "also", 1001)
        books = []
        rows = (
            (NoSuchKind, lambda: first.look_up("Bok", ["title"], ["a"])), (NoSuchObject, lambda: first.told(7, "title")),
            (NoSuchField, lambda: first.told(1001, "none")), (NoSuchKey, lambda: first.look_up("Book", ["price"], [5])),
            (FieldIsList, lambda: first.told(1001, "also")), (FieldIsNoList, lambda: first.listed(1001, "title")),
            (FieldIsNoLink, lambda: first.referred(1001, "Book", "title")), (ValueDoesNotFit, lambda: first.put(1001, "price", -1)),
            (NotLinked, lambda: first.link(1001, "also", 1001, 1002)), (ListIsFull, lambda: first.link(1001, "also", books[-1])),
            (TooManyLines, lambda: first.ask("from Book b give b", {})),
        )
        books.extend([first.make("Book", {}) for _ in range(20)])
        for number in books[:11]:
            first.link(1001, "also", number)
        self.assertEqual(first.flush(), ("taken",))
        for error, call in rows:
            with self.assertRaises(error) as caught:
                call()
            words = "".join(" " + sign.lower() if sign.isupper() else sign for sign in error.__name__).strip().replace("is list", "is a list")
            self.assertEqual(caught.exception.label, words)
        # Each error is an answer: with the first writer gone, nothing is told otherwise.
        self.assertEqual(first.refresh(), ("taken",))
        second = self.session(2)
        second.delete(1001)
        self.assertEqual(second.flush(), ("taken",))
        self.assertEqual(first.flush(), ("otherwise", 2))
        self.assertEqual(why(self.mapper, 1), ("otherwise", 2, ("told", 1001, "none"), ("error", "no such field"), ("error", "no such object")))

    def test_deeds_that_raise_other_errors_are_not_in_the_script(self):
        first = self.filled()
        for text, parameters, error in (("from Bok b give b", {}, Fault), ("from Book b where b = :p give b", {}, NoParameter),
                                        ("from Book b where b = :p give b", {"p": 0}, WrongParameter)):
            for _ in range(25):
                with self.assertRaises(error):
                    first.ask(text, parameters)
        for _ in range(60):
            first.there(1001)
        with self.assertRaises(SessionTooLong):
            first.ask("from Bok b give b", {})

    def test_sixty_entries(self):
        first = self.filled()
        for _ in range(30):
            first.there(1001)
            with self.assertRaises(NoSuchObject):
                first.told(7, "title")
        for call in (lambda: first.there(1001), lambda: first.make("Firm", {}), lambda: first.undo(), lambda: first.told(7, "title"),
                     lambda: first.delete(1001), lambda: first.ask("from Book b give b", {})):
            with self.assertRaises(SessionTooLong):
                call()
        first.ahead([1001], [])
        first.forget()
        self.assertEqual(first.refresh(), ("taken",))
        with self.assertRaises(SessionTooLong):
            first.there(1001)
        self.assertEqual(first.flush(), ("taken",))
        first.there(1001)

    def test_two_hundred_objects(self):
        first = self.session(1)
        for _ in range(4):
            for _ in range(50):
                first.make("Firm", {})
            first.drop()
        for contents in ({}, {"n": 10}):
            with self.assertRaises(TooManyObjects):
                first.make("Firm", contents)
        with self.assertRaises(TooManyObjects):
            first.make("Form", {})
        self.assertIs(first.there(1200), False)
        self.assertEqual(first.flush(), ("taken",))
        for _ in range(60):
            first.undo()
        with self.assertRaises(SessionTooLong):
            first.make("Firm", {})

    def test_what_is_passed_and_returned_is_not_shared(self):
        first = self.filled()
        contents, names, amounts, parameters = {"title": "c", "price": 2}, ["title"], ["a"], {"p": 2}
        first.make("Book", contents)
        first.look_up("Book", names, amounts)
        lines = first.ask("from Book b where b.price = :p give b", parameters)
        first.link(1001, "also", 1004)
        listed = first.listed(1001, "also")
        gone = first.delete(1004)
        contents["title"] = 7
        for one in (names, amounts, lines, lines[0], listed, gone[0], gone[1]):
            one.clear()
        parameters.clear()
        self.assertEqual(first.refresh(), ("taken",))
        first.undo()
        self.assertEqual((first.told(1004, "title"), first.listed(1001, "also")), ("c", [1004]))


class OverTest(SessionCase):
    DEEDS = (("there", 1001), ("kind_of", 1001), ("told", 1001, "writer"), ("listed", 1001, "also"), ("look_up", "Book", ["title"], ["a"]),
             ("referred", 1002, "Book", "writer"), ("ask", "from Book b give b", {}), ("make", "Firm", {}), ("put", 1001, "price", 1),
             ("link", 1001, "also", 1001), ("unlink", 1001, "also", 1001), ("delete", 1001), ("undo",))
    OTHERS = (("flush",), ("refresh",), ("rebase",), ("drop",), ("ahead", [1001], []), ("forget",))

    def check(self, session, deeds, error):
        for name, *told in deeds:
            with self.assertRaises(error):
                getattr(session, name)(*told)

    def test_closed(self):
        first = self.filled()
        self.assertIsNone(first.close())
        self.check(first, self.DEEDS + self.OTHERS, SessionClosed)
        self.assertIsNone(first.close())

    def test_shut_and_ended(self):
        self.filled()
        self.mapper.add_version("")
        second, third = self.session(2, 2), self.session(3, 2)
        self.mapper.shut(2)
        self.check(second, self.DEEDS + self.OTHERS, VersionEnded)
        second.close()
        self.check(second, self.DEEDS + self.OTHERS, SessionClosed)
        self.mapper.end(2)
        self.check(third, self.DEEDS + self.OTHERS, VersionEnded)
        self.assertEqual(self.session(4).told(1001, "price"), 5)

    def test_too_old_comes_ahead_of_too_long_and_too_many(self):
        first = self.filled()
        old = self.session(2)
        for _ in range(60):
            old.there(1001)
        for place in range(8):
            first.put(1001, "price", place + 10)
            first.flush()
        self.check(old, self.DEEDS, SessionTooOld)
        self.mapper.add_version("")
        self.mapper.end(1)
        self.check(old, self.DEEDS + self.OTHERS, VersionEnded)


class FlushTest(SessionCase):
    def test_otherwise_comes_first(self):
        first = self.filled()
        second = self.session(2)
        second.told(1001, "title")
        second.put(1001, "price", 9)
        second.told(1001, "price")
        second.make("Writer", {})
        first.put(1001, "title", "x")
        first.flush()
        self.assertEqual(second.flush(), ("otherwise", 0))
        self.assertEqual(second.told(1001, "title"), "a")
        self.assertEqual(why(self.mapper, 2), ("otherwise", 0, ("told", 1001, "title"), ("value", "a"), ("value", "x")))

    def test_what_was_not_told_may_change(self):
        first = self.filled()
        second = self.session(2)
        second.put(1001, "price", 9)
        second.told(1001, "price")
        first.put(1001, "title", "x")
        first.put(1001, "price", 1)
        first.flush()
        self.assertEqual(second.flush(), ("taken",))
        self.assertEqual((second.told(1001, "title"), second.told(1001, "price")), ("x", 9))

    def test_deeds_that_would_be_made_otherwise(self):
        first = self.filled()
        second, third, fourth = self.session(2), self.session(3), self.session(4)
        second.put(1001, "price", 9)
        third.delete(1002)
        fourth.make("Writer", {"name": "v", "boss": 1002})
        fourth.undo()
        first.make("Book", {"writer": 1002})
        first.delete(1001)
        self.assertEqual(first.flush(), ("taken",))
        self.assertEqual(second.flush(), ("otherwise", 0))
        self.assertEqual(why(self.mapper, 2)[2:], (("put", 1001, "price", 9), ("value", None), ("error", "no such object")))
        self.assertEqual(third.flush(), ("otherwise", 0))
        self.assertEqual(why(self.mapper, 3)[3:], (("value", ([1002], [1001])), ("value", ([1002], [1004]))))
        first.delete(1002)
        self.assertEqual(first.flush(), ("taken",))
        self.assertEqual(fourth.flush(), ("otherwise", 0))
        self.assertEqual(why(self.mapper, 4)[2:], (("make", 4001, "Writer", {"name": "v", "boss": 1002}), ("value", None), ("error", "value does not fit")))

    def test_against(self):
        first = self.filled()
        writer = first.make("Writer", {})
        self.assertEqual(first.flush(), ("against", writer, "Writer.name needed"))
        self.assertEqual(why(self.mapper, 1), ("against", writer, "Writer.name needed"))
        self.assertTrue(first.there(writer))
        first.put(writer, "name", "v")
        first.make("Book", {"title": "a"})
        self.assertEqual(first.flush(), ("against", 1005, "Book key title"))
        first.put(1001, "title", "b")
        self.assertEqual(first.flush(), ("taken",))

    def test_against_what_others_flushed(self):
        first = self.filled()
        second = self.session(2)
        second.make("Book", {"title": "z"})
        first.put(1001, "title", "z")
        first.flush()
        self.assertEqual(second.flush(), ("against", 2001, "Book key title"))

    def test_too_large(self):
        mapper = Mapper("kind A { } kind B { t: text 40; }")
        first, second = mapper.start_session(1, 1), mapper.start_session(1, 2)
        for session, many in ((first, 60), (first, 60), (first, 60), (second, 60), (second, 60), (second, 57)):
            for _ in range(many):
                session.make("A", {})
            self.assertEqual(session.flush(), ("taken",))
        # 357 objects without fields are there, and one with a text of 40 signs counts 42.
        big = second.make("B", {"t": "x" * 40})
        second.make("A", {})
        self.assertEqual(second.flush(), ("taken",))
        extra = second.make("A", {})
        self.assertEqual(second.flush(), ("too large",))
        self.assertEqual(why(mapper, 2), ("too large",))
        self.assertTrue(second.there(extra))
        second.put(big, "t", "x" * 39)
        self.assertEqual(second.flush(), ("taken",))
        second.put(big, "t", "x" * 40)
        self.assertEqual(second.flush(), ("too large",))
        second.drop()
        self.assertEqual(version_rows(mapper), [(1, False, 360, 360)])

    def test_a_picture_that_is_too_large_may_shrink_or_stay(self):
        mapper = Mapper("kind A { t: text 40; }")
        mapper.add_version("new A.l: list A; new A.m: list A; new A.o: list A;")
        first = mapper.start_session(1, 1)
        for _ in range(8):
            first.make("A", {"t": "x" * 40})
        for _ in range(25):
            first.make("A", {"t": ""})
        self.assertEqual(first.flush(), ("taken",))
        # 386 in the elder version, 485 in the younger one.
        second = mapper.start_session(2, 2)
        second.put(1001, "t", "y" * 40)
        self.assertEqual(second.flush(), ("taken",))
        second.put(1009, "t", "y")
        self.assertEqual(second.flush(), ("too large",))
        second.put(1001, "t", "")
        self.assertEqual(second.flush(), ("taken",))

    def test_the_order_of_the_refusals(self):
        mapper = Mapper("kind A { t: text 40 not null; n: int 0..9; key n; }")
        first = mapper.start_session(1, 1)
        for place in range(8):
            first.make("A", {"t": "x" * 40, "n": place})
        first.flush()
        second, third = mapper.start_session(1, 2), mapper.start_session(1, 3)
        for session in (second, third):
            for _ in range(2):
                session.make("A", {"t": "x" * 40})
        second.told(1001, "n")
        second.make("A", {"n": 3})
        third.make("A", {"n": 3})
        self.assertEqual(third.flush(), ("against", 3003, "A.t needed"))
        third.put(3003, "t", "x")
        self.assertEqual(third.flush(), ("against", 3003, "A key n"))
        third.put(3003, "n", None)
        self.assertEqual(third.flush(), ("too large",))
        first.put(1001, "n", 9)
        first.flush()
        self.assertEqual(second.flush(), ("otherwise", 2))

    def test_behind_a_flush_the_script_is_empty(self):
        first = self.filled()
        second = self.session(2)
        first.told(1001, "title")
        first.put(1001, "price", 8)
        first.flush()
        second.put(1001, "title", "z")
        second.flush()
        self.assertEqual(first.flush(), ("taken",))
        self.assertIs(first.undo(), False)
        self.assertEqual(first.told(1001, "title"), "z")

    def test_an_empty_flush_goes_to_now(self):
        first = self.filled()
        second = self.session(2)
        first.put(1001, "price", 8)
        first.flush()
        self.assertEqual(second.flush(), ("taken",))
        self.assertEqual(second.told(1001, "price"), 8)

    def test_what_other_sessions_see(self):
        self.filled()
        self.mapper.add_version("rename Book.price to cents; change Book.title: text 3 else \"-\"; gone Writer.boss; new Book.n: int 0..9 = 4;")
        elder, younger, young, other = self.session(2), self.session(3, 2), self.session(4, 2), self.session(5)
        younger.put(1001, "cents", 70)
        younger.make("Book", {"title": "abc", "n": 1})
        self.assertEqual(younger.flush(), ("taken",))
        self.assertEqual((elder.told(1001, "price"), elder.there(3001), young.there(3001)), (5, False, False))
        self.assertEqual(elder.refresh(), ("otherwise", 0))
        elder.drop()
        self.assertEqual((elder.told(1001, "price"), elder.told(3001, "title"), elder.told(3001, "price")), (70, "abc", None))
        elder.put(3001, "title", "abcdef")
        self.assertEqual(elder.flush(), ("taken",))
        young.drop()
        self.assertEqual((young.told(3001, "title"), young.told(3001, "n"), young.told(1001, "n")), ("-", 1, 4))
        self.assertEqual(other.told(1001, "price"), 5)
        young.delete(1001)
        self.assertEqual(young.flush(), ("taken",))
        other.drop()
        self.assertEqual([other.there(number) for number in (1001, 1002, 3001)], [False, True, True])

    def test_constraints_of_the_own_version_alone_hold(self):
        self.filled()
        self.mapper.add_version("gone not null Writer.name; gone key Book (title);")
        younger = self.session(2, 2)
        younger.make("Writer", {})
        younger.make("Book", {"title": "a"})
        self.assertEqual(younger.flush(), ("taken",))
        elder = self.session(3)
        elder.put(1001, "price", 1)
        self.assertEqual(elder.flush(), ("taken",))
        elder.put(1001, "title", "a")
        self.assertEqual(elder.flush(), ("against", 1001, "Book key title"))


class NowTest(SessionCase):
    def two(self):
        """Return two sessions at the same moment."""
        return self.filled(), self.session(2)

    def test_refresh(self):
        first, second = self.two()
        second.told(1001, "title")
        second.put(1001, "price", 9)
        second.make("Firm", {})
        second.undo()
        first.put(1002, "name", "v")
        first.flush()
        self.assertEqual(second.refresh(), ("taken",))
        self.assertEqual((second.told(1002, "name"), second.told(1001, "price")), ("v", 9))
        self.assertIs(second.undo(), True)
        self.assertEqual(second.told(1001, "price"), 5)
        first.put(1001, "title", "x")
        first.flush()
        self.assertEqual(second.refresh(), ("otherwise", 0))
        self.assertEqual(second.told(1001, "title"), "a")
        self.assertEqual(second.flush(), ("otherwise", 0))

    def test_rebase_keeps_the_edits_that_stand(self):
        first, second = self.two()
        second.told(1001, "price")
        second.put(1001, "title", "t")
        second.put(1001, "title", "u")
        second.undo()
        second.make("Firm", {"n": 1})
        with self.assertRaises(ValueDoesNotFit):
            second.put(1001, "price", -1)
        second.put(2001, "n", 2)
        first.put(1001, "price", 6)
        first.flush()
        self.assertEqual(second.refresh(), ("otherwise", 0))
        self.assertEqual(second.rebase(), ("taken",))
        self.assertEqual((second.told(1001, "title"), second.told(1001, "price"), second.told(2001, "n")), ("t", 6, 2))
        for _ in range(3):
            self.assertIs(second.undo(), True)
        self.assertIs(second.undo(), False)

    def test_rebase_leaves_out_refused_deletions(self):
        first, second = self.two()
        first.put(1002, "firm", 1003)
        first.flush()
        second.drop()
        self.assertEqual(second.delete(1003), Refusing(1002, "firm"))
        second.put(1001, "price", 2)
        first.put(1002, "firm", None)
        first.flush()
        self.assertEqual(second.flush(), ("otherwise", 0))
        self.assertEqual(why(self.mapper, 2)[3:], (("value", Refusing(1002, "firm")), ("value", ([1003], []))))
        self.assertEqual(second.rebase(), ("taken",))
        self.assertEqual(second.flush(), ("taken",))
        self.assertTrue(second.there(1003))

    def test_rebase_is_told_otherwise(self):
        first, second = self.two()
        second.told(1001, "price")
        second.put(1002, "name", "v")
        second.told(1001, "title")
        second.put(1001, "title", "t")
        first.delete(1001)
        first.flush()
        self.assertEqual(second.rebase(), ("otherwise", 3))
        self.assertEqual(why(self.mapper, 2), ("otherwise", 3, ("put", 1001, "title", "t"), ("value", None), ("error", "no such object")))
        self.assertEqual(second.told(1001, "title"), "t")
        second.undo()
        self.assertEqual(second.rebase(), ("taken",))
        self.assertEqual((second.there(1001), second.told(1002, "name")), (False, "v"))

    def test_the_index_behind_a_rebase_counts_the_new_script(self):
        first, second = self.two()
        second.told(1001, "price")
        second.put(1001, "title", "t")
        self.assertEqual(second.rebase(), ("taken",))
        first.delete(1001)
        first.flush()
        self.assertEqual(second.flush(), ("otherwise", 0))

    def test_drop(self):
        first, second = self.two()
        second.put(1001, "title", "t")
        second.told(1001, "price")
        first.put(1001, "price", 6)
        first.flush()
        self.assertIsNone(second.drop())
        self.assertEqual((second.told(1001, "title"), second.told(1001, "price")), ("a", 6))
        self.assertIs(second.undo(), False)
        self.assertEqual(second.flush(), ("taken",))

    def test_answers_of_queries_count(self):
        first, second = self.two()
        second.ask("from Book b group all give count()", {})
        second.look_up("Book", ["title"], ["n"])
        first.make("Firm", {})
        first.flush()
        self.assertEqual(second.refresh(), ("taken",))
        first.make("Book", {"title": "n"})
        first.flush()
        self.assertEqual(second.refresh(), ("otherwise", 0))
        self.assertEqual(why(self.mapper, 2)[3:], (("value", [[1]]), ("value", [[2]])))


class KnownTest(SessionCase):
    """What is known, and the requests that tell it."""

    def requests(self):
        return take_requests(self.mapper)

    def setUp(self):
        super().setUp()
        self.first = self.filled()
        self.second = self.session(2)
        self.requests()

    def test_a_known_thing_makes_no_request(self):
        for _ in range(2):
            self.second.told(1001, "title")
        self.assertEqual(self.requests(), [(2, "object", [1001])])
        self.assertEqual(self.requests(), [])

    def test_deeds_bring_company(self):
        for title in "bcd":
            self.first.make("Book", {"title": title})
        writers = [self.first.make("Writer", {"name": name}) for name in "uv"]
        for book, writer in ((1004, writers[0]), (1005, writers[1])):
            self.first.put(book, "writer", writer)
            self.first.link(1001, "also", book)
        self.first.flush()
        self.second.drop()
        self.requests()
        self.assertEqual(self.second.listed(1001, "also"), [1005, 1004])
        self.assertEqual(self.requests(), [(2, "object", [1001]), (2, "object", [1004, 1005])])
        self.assertEqual(self.second.told(1004, "writer"), 1007)
        self.assertEqual(self.requests(), [(2, "object", [1007, 1008])])
        self.second.told(1005, "writer")
        self.second.told(1008, "name")
        self.assertEqual(self.requests(), [])
        self.second.forget()
        self.assertEqual(self.second.referred(1005, "Book", "also"), [1001])
        self.assertEqual(self.second.ask("from Book b where b.title > \"b\" give b", {}), [[1005], [1006]])
        self.second.forget()
        self.second.ask("from Book b where b.title > \"a\" give b.title, b", {})
        self.second.forget()
        self.assertEqual(self.second.look_up("Book", ["title"], ["c"]), 1005)
        self.requests()
        self.second.told(1005, "title")
        self.assertEqual(self.requests(), [])

    def test_what_was_answered_together_is_read_together(self):
        self.first.make("Book", {"writer": 1002})
        self.first.flush()
        self.second.drop()
        self.requests()
        self.assertEqual(self.second.referred(1002, "Book", "writer"), [1001, 1004])
        self.requests()
        self.second.told(1004, "price")
        self.assertEqual(self.requests(), [(2, "object", [1001, 1004])])

    def test_forget(self):
        self.second.told(1001, "title")
        self.assertIsNone(self.second.forget())
        self.second.told(1001, "title")
        self.assertEqual(self.requests(), [(2, "object", [1001])] * 2)

    def test_ahead(self):
        self.assertIsNone(self.second.ahead([1003, 1001], [["writer"], ["writer", "firm"]]))
        self.assertEqual(self.requests(), [(2, "object", [1001, 1003]), (2, "object", [1002])])
        self.second.told(1001, "writer")
        self.second.told(1002, "name")
        self.second.kind_of(1003)
        self.assertEqual(self.requests(), [])
        self.assertEqual(self.second.flush(), ("taken",))

    def test_scripts_are_told_anew_without_company(self):
        self.second.ahead([1001, 1002, 1003], [])
        self.second.told(1001, "title")
        self.second.told(1002, "name")
        self.second.told(1002, "boss")
        self.second.there(1003)
        self.requests()
        self.assertEqual(self.second.refresh(), ("taken",))
        self.assertEqual(self.requests(), [(2, "object", [number]) for number in (1001, 1002, 1003)])
        self.second.told(1002, "name")
        self.assertEqual(self.requests(), [(2, "object", [1002])])

    def test_nothing_is_known_behind_what_is_taken(self):
        for call in (self.second.flush, self.second.refresh, self.second.rebase, self.second.drop):
            self.second.put(1001, "price", 5)
            self.second.told(1002, "name")
            call()
            self.requests()
            self.second.told(1002, "name")
            self.assertEqual(self.requests(), [(2, "object", [1002])])
            self.second.drop()

    def test_all_is_known_behind_what_is_refused(self):
        self.second.told(1002, "name")
        self.second.told(1001, "price")
        self.second.make("Writer", {})
        self.assertEqual(self.second.flush(), ("against", 2001, "Writer.name needed"))
        self.first.put(1002, "name", "v")
        self.first.flush()
        for call in (self.second.flush, self.second.refresh):
            self.assertEqual(call(), ("otherwise", 0))
        self.requests()
        self.second.told(1001, "title")
        self.second.told(1002, "name")
        self.assertEqual(self.requests(), [])

    def test_the_reader_is_bounded_ahead_of_deeds(self):
        for number in range(3000, 3050):
            self.second.there(number)
        self.second.forget()
        self.second.ahead(list(range(3001, 3031)), [])
        self.requests()
        # 30 things and 30 numbers that came together are 60.
        self.second.there(3001)
        self.assertEqual(self.requests(), [])
        self.second.there(3050)
        self.assertEqual(self.requests(), [(2, "object", [3050])])
        self.second.there(3001)
        self.assertEqual(self.requests(), [(2, "object", [3001])])

    def test_the_reader_is_bounded_ahead_of_ahead(self):
        self.second.ahead(list(range(3001, 3032)), [])
        self.requests()
        self.second.ahead([3001], [])
        self.assertEqual(self.requests(), [(2, "object", [3001])])

    def test_what_is_read_for_errors_is_noted_too(self):
        with self.assertRaises(NoSuchObject):
            self.second.told(77, "title")
        self.assertEqual(self.requests(), [(2, "object", [77])])
        with self.assertRaises(NoSuchField):
            self.second.told(1001, "none")
        self.assertEqual(self.requests(), [(2, "object", [1001])])

    def test_requests_of_several_sessions_in_order(self):
        self.second.there(5)
        self.first.there(6)
        self.second.there(7)
        self.assertEqual(self.requests(), [(2, "object", [5]), (1, "object", [6]), (2, "object", [7])])

    def test_the_last_60_requests(self):
        for number in range(40):
            self.second.there(number + 1)
            self.first.there(number + 1)
        found = self.requests()
        self.assertEqual(len(found), 60)
        self.assertEqual((found[0], found[-1]), ((2, "object", [11]), (1, "object", [40])))

    def test_answers_do_not_depend_on_what_was_read_ahead(self):
        self.second.ahead([1001, 1002], [["writer", "boss"], ["also"]])
        third = self.session(3)
        self.first.put(1001, "price", 77)
        self.first.flush()
        for session in (self.second, third):
            self.assertEqual((session.told(1001, "price"), session.told(1001, "writer"), session.there(1003)), (5, 1002, True))
            session.forget()
            self.assertEqual((session.told(1001, "price"), session.told(1001, "writer"), session.there(1003)), (5, 1002, True))


if __name__ == "__main__":
    unittest.main()
