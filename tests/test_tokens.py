import unittest

from helper import FaultCase

from oneheap.words.tokens import Token, quoted, tokens

SIGNS = (".", "..", "-", "->", "<", "<=", "=", "(", ")")


def told(text, signs=SIGNS, longest=100):
    return [(token.role, token.text, token.place) for token in tokens(text, signs, longest)]


def read(text):
    return tokens(text, SIGNS, 100)


class TokensTest(FaultCase):
    def test_token_has_its_fields(self):
        token = Token("word", "kind", 4)
        self.assertEqual((token.role, token.text, token.place), ("word", "kind", 4))

    def test_roles_texts_and_places(self):
        self.assertEqual(told(' Book b_1 12"a"<='), [
            ("word", "Book", 1), ("word", "b_1", 6), ("number", "12", 10), ("text", "a", 12), ("sign", "<=", 15),
            ("end", "", 17),
        ])

    def test_tokens_need_no_blanks_between_them(self):
        self.assertEqual(told('a(1)"x"b'), [
            ("word", "a", 0), ("sign", "(", 1), ("number", "1", 2), ("sign", ")", 3), ("text", "x", 4),
            ("word", "b", 7), ("end", "", 8),
        ])

    def test_the_longest_sign_counts(self):
        self.assertEqual([text for _, text, _ in told("...-->-<<==")], ["..", ".", "-", "->", "-", "<", "<=", "=", ""])
        self.assertEqual([text for _, text, _ in told("...", ("..", "."))], ["..", ".", ""])
        self.assertEqual([text for _, text, _ in told("<==>", ("=", "<", "<=", "<==", "=>", ">"))], ["<==", ">", ""])
        self.assertEqual([text for _, text, _ in told("a1..2", ("..",))], ["a1", "..", "2", ""])

    def test_a_sign_counts_only_in_its_language(self):
        self.assertEqual(told("=", ("=",)), [("sign", "=", 0), ("end", "", 1)])
        self.assertEqual(self.told_fault(lambda: tokens("=", ("==",), 10)), (0, "unexpected sign"))
        self.assertEqual(self.told_fault(lambda: tokens("a.b", ("..",), 10)), (1, "unexpected sign"))
        self.assertEqual(self.told_fault(lambda: tokens("a", (), 0)), (0, "text too long"))

    def test_no_tokens_but_the_end(self):
        self.assertEqual(told(""), [("end", "", 0)])
        self.assertEqual(told("", (), 0), [("end", "", 0)])
        self.assertEqual(told("   "), [("end", "", 3)])

    def test_the_end_stands_behind_the_last_blank(self):
        self.assertEqual(told("a  "), [("word", "a", 0), ("end", "", 3)])

    def test_words(self):
        self.assertEqual(told("abcdefghijkl")[0], ("word", "abcdefghijkl", 0))
        self.assertEqual(told("A_b9_ Z")[0], ("word", "A_b9_", 0))
        self.check_fault(read, "a |abcdefghijklm", "word too long")
        self.check_fault(read, "|_a", "unexpected sign")

    def test_numbers(self):
        self.assertEqual(told("0 10 123456789012345678")[:3], [
            ("number", "0", 0), ("number", "10", 2), ("number", "123456789012345678", 5)])
        self.check_faults(read, [
            ("a |00", "needless zero"),
            ("a |01", "needless zero"),
            ("|0000000000000000000", "needless zero"),
            ("|1234567890123456789", "number too long"),
            ("|1234567890123456789a", "number too long"),
            ("|01a", "needless zero"),
            ("12|a", "unexpected sign"),
            ("12|_", "unexpected sign"),
            ("0|x", "unexpected sign"),
        ])

    def test_quoted_texts(self):
        self.assertEqual(told('""'), [("text", "", 0), ("end", "", 2)])
        self.assertEqual(told('"a b"')[0], ("text", "a b", 0))
        self.assertEqual(told(r'"\"\\"')[0], ("text", '"\\', 0))
        self.assertEqual(told('"kind 01 $"')[0], ("text", "kind 01 $", 0))
        self.check_faults(read, [
            (r'a "b\|c"', "unexpected sign"),
            (r'"\| "', "unexpected sign"),
            ('a |"b', "text is not closed"),
            ('|"', "text is not closed"),
            ('|"a\\', "text is not closed"),
            ('|"a\\"', "text is not closed"),
            ('"a" |"', "text is not closed"),
            ('"a\\|n', "unexpected sign"),
        ])

    def test_characters_that_no_token_can_have(self):
        self.check_faults(read, [
            ("a |$", "unexpected sign"), ("a|%b", "unexpected sign"), ("|\n", "unexpected sign"),
            ("a |\u00e4", "unexpected sign"), ("|~", "unexpected sign"), ("|\\", "unexpected sign"),
            ("1 |\u0663", "unexpected sign"), ('"a|%b"', "unexpected sign"), ('"|\u00e4"', "unexpected sign"),
        ])

    def test_the_first_fault_from_left_to_right(self):
        self.check_faults(read, [
            ("|abcdefghijklm 01", "word too long"),
            ("|01 abcdefghijklm", "needless zero"),
            ("a |$ 01", "unexpected sign"),
            ('"a\\|b 01 "', "unexpected sign"),
            ('|01 "a', "needless zero"),
        ])

    def test_length(self):
        self.assertEqual(len(tokens("a" + " " * 99, SIGNS, 100)), 2)
        self.assertEqual(self.told_fault(lambda: tokens("$" + " " * 100, SIGNS, 100)), (0, "text too long"))
        self.assertEqual(self.told_fault(lambda: tokens(" " * 101, SIGNS, 100)), (0, "text too long"))

    def test_quoted(self):
        self.assertEqual(quoted(""), '""')
        self.assertEqual(quoted("a b"), '"a b"')
        self.assertEqual(quoted('a"b\\c'), r'"a\"b\\c"')

    def test_quoted_is_read_back(self):
        for text in ("", "a", " ", '"', "\\", '\\"', '"\\', " a  b ", '""', "\\\\", "~!#$&'()"):
            self.assertEqual(told(quoted(text)), [("text", text, 0), ("end", "", len(quoted(text)))])


if __name__ == "__main__":
    unittest.main()
