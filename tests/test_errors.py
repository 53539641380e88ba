import unittest

from oneheap import errors

LABELS = {
    "NoSuchKind": "no such kind",
    "NoSuchObject": "no such object",
    "NoSuchField": "no such field",
    "NoSuchKey": "no such key",
    "FieldIsList": "field is a list",
    "FieldIsNoList": "field is no list",
    "FieldIsNoLink": "field is no link",
    "ValueDoesNotFit": "value does not fit",
    "NotLinked": "not linked",
    "ListIsFull": "list is full",
    "TooManyLines": "too many lines",
}

PLAIN = (
    "NoSuchVersion", "VersionIsShut", "NumberTaken", "TooManySessions", "SessionClosed", "VersionEnded",
    "SessionTooOld", "SessionTooLong", "TooManyObjects", "OnlyVersion", "NotAtAnEnd", "TooManyVersions",
    "TooManyColumns", "RowsOutOfOrder", "MarksLeft",
)


class ErrorsTest(unittest.TestCase):
    def test_base(self):
        self.assertEqual(errors.HeapError.__bases__, (ValueError,))
        self.assertIsInstance(errors.HeapError(), ValueError)

    def test_fault(self):
        fault = errors.Fault(3, "expected a kind")
        self.assertEqual((fault.place, fault.reason), (3, "expected a kind"))
        self.assertEqual(errors.Fault.__bases__, (errors.HeapError,))

    def test_told(self):
        self.assertEqual(errors.Told("any label").label, "any label")
        self.assertEqual(errors.Told.__bases__, (errors.HeapError,))

    def test_labels(self):
        for name, label in LABELS.items():
            error = getattr(errors, name)
            self.assertEqual(error.__bases__, (errors.Told,), name)
            self.assertEqual(error().label, label)
            with self.assertRaises(TypeError):
                error("a label")

    def test_plain(self):
        for name in PLAIN:
            error = getattr(errors, name)
            self.assertEqual(error.__bases__, (errors.HeapError,), name)
            self.assertEqual(vars(error()), {})

    def test_fields(self):
        for name in ("NoParameter", "WrongParameter"):
            error = getattr(errors, name)
            self.assertEqual(error.__bases__, (errors.HeapError,))
            self.assertEqual(vars(error("x")), {"name": "x"})
        for name in ("NumberTwice", "CannotMove"):
            error = getattr(errors, name)
            self.assertEqual(error.__bases__, (errors.HeapError,))
            self.assertEqual(vars(error(7)), {"number": 7})

    def test_statement_refused(self):
        self.assertEqual(errors.StatementRefused.__bases__, (errors.HeapError,))
        refused = errors.StatementRefused(2, "not there", 9)
        self.assertEqual(vars(refused), {"place": 2, "reason": "not there", "number": 9})
        self.assertIsNone(errors.StatementRefused(2, "no such row").number)

    def test_every_error_is_raised_and_caught_by_its_base(self):
        for name in [*LABELS, *PLAIN]:
            with self.assertRaises(errors.HeapError):
                raise getattr(errors, name)()


if __name__ == "__main__":
    unittest.main()
