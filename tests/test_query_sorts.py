"""Queries: the sorts of their expressions, and what is wrong with names, sorts and parameters."""

import unittest

from helper import FaultCase

from oneheap.queries.reading import read_query
from oneheap.queries.sorts import kinds_of_shapes
from oneheap.schemas.reading import read_schema

SCHEMA = read_schema(
    'kind Book { title: text 40; price: int 0..999; state: one of "new", "old"; author: ref Author; '
    "any: ref Shop or Author; also: list Book; mixed: list Shop or Author; } "
    "kind Author { name: text 20; price: text 3; born: int 0..9; best: ref Book; books: list Book; mine: int 0..1; "
    "link: ref Book; } "
    'kind Shop { name: one of "s"; price: int 0..9; born: int 0..1; best: ref Shop; books: list Shop; other: text 1; '
    "link: list Book; } "
)

INTEGERS = ("b.price", "5", "-b.price", "b.price + 1", "count(b.also)", "sum(q in b.also: q.price)", "(1)",
            "least(q in b.also: q.price)", "greatest(q in b.also: 5)", "b.author.born", "b.any.born")
TEXTS = ("b.title", '"a"', "b.state", "least(q in b.also: q.title)", "b.author.best.title", "b.any.name")
OBJECTS = ("b", "b.author", "b.any", "b.author.best", "b.any.best", "(b)")
TRUTHS = ("(b.price = 1)", "(not b.price = 1)", "(b.price is null)", "(b.price in (1))", "(b.price = 1 or b.price = 2)",
          "some q in b.also (q.price = 1)", "every q in b.also (q.price = 1)")
SORTS = {"integer": INTEGERS, "text": TEXTS, "object": OBJECTS, "truth": TRUTHS}
DIFFER = "sorts differ"


def read(text):
    return read_query(SCHEMA, text)


class SortCase(FaultCase):
    def check_where(self, test, reason=None):
        if reason is None:
            with self.subTest(text=test):
                read(f"from Book b where {test} give b")
        else:
            self.check_fault(read, f"from Book b where {test} give b", reason)

    def check_give(self, term, reason=None, start="from Book b "):
        if reason is None:
            with self.subTest(text=term):
                read(f"{start}give {term}")
        else:
            self.check_fault(read, f"{start}give {term}", reason)


class OperatorTest(SortCase):
    def test_two_sides(self):
        asked = {
            "=": ("integer", "text", "object"), "!=": ("integer", "text", "object"), "<": ("integer", "text"),
            "<=": ("integer", "text"), ">": ("integer", "text"), ">=": ("integer", "text"), "starts": ("text",),
            "holds": ("text",), "and": ("truth",), "or": ("truth",),
        }
        for sign, sorts in asked.items():
            for left, lefts in SORTS.items():
                for right, rights in SORTS.items():
                    if left == right and left in sorts:
                        for side in lefts:
                            self.check_where(f"{side} {sign} {rights[0]}")
                            self.check_where(f"{rights[-1]} {sign} {side}")
                    else:
                        for side in lefts:
                            self.check_where(f"{side} |{sign} {rights[0]}", DIFFER)

    def test_arithmetic(self):
        for sign in ("+", "-", "*"):
            for sort, sides in SORTS.items():
                for side in sides:
                    if sort == "integer":
                        self.check_give(f"{side} {sign} 1")
                        self.check_give(f"1 {sign} {side}")
                    else:
                        self.check_give(f"{side} |{sign} 1", DIFFER)
                        self.check_give(f"1 |{sign} {side}", DIFFER)

    def test_not_and_minus(self):
        for sort, sides in SORTS.items():
            for side in sides:
                if sort == "truth":
                    self.check_where(f"not {side}")
                else:
                    self.check_where(f"|not {side}", DIFFER)
                if sort == "integer":
                    self.check_give(f"-({side})")
                else:
                    self.check_give(f"|-({side})", DIFFER)
        self.check_where("not |not 5", DIFFER)
        self.check_give("-|-b.title", DIFFER)
        self.check_where("|not 5 and b.nothing = 1", DIFFER)

    def test_null(self):
        for sort, sides in SORTS.items():
            for side in sides:
                if sort == "truth":
                    self.check_where(f"{side} |is null", DIFFER)
                    self.check_where(f"{side} |is not null", DIFFER)
                else:
                    self.check_where(f"{side} is null")
                    self.check_where(f"{side} is not null")
        self.check_where(":p |is null", DIFFER)
        self.check_where("(b.price = 1) is |5", "expected null")

    def test_among(self):
        for left, lefts in SORTS.items():
            for right, rights in SORTS.items():
                if left == right and left != "truth":
                    self.check_where(f"{lefts[0]} in ({rights[0]}, {rights[-1]})")
                else:
                    self.check_where(f"{lefts[0]} |in ({rights[0]})", DIFFER)
        self.check_where("1 |in (1, 2, b.title)", DIFFER)
        self.check_where("1 in (b.title, b.|nothing)", "no such field")

    def test_what_stands_behind_words(self):
        for sort, sides in SORTS.items():
            for side in sides:
                if sort == "truth":
                    self.check_where(side)
                    self.check_fault(read, f"from Book b give |{side}", DIFFER)
                    self.check_fault(read, f"from Book b order by |{side} give b", DIFFER)
                else:
                    self.check_where(f"|{side}", DIFFER)
                    self.check_give(side)
                    read(f"from Book b order by {side} down give b")
        self.check_faults(read, [
            ("from Book b where |:p give b", DIFFER),
            ("from Book b give |:p", DIFFER),
            ("from Book b give |(:p)", DIFFER),
            ("from Book b order by |:p give b", DIFFER),
            ("from Book b give b, |b.price = 1", DIFFER),
            ("from Book b order by b, |b.price = 1 down give b", DIFFER),
            ("from Book b where b.price + 1 |or b.price = 2 give b", DIFFER),
        ])

    def test_some_and_every(self):
        for word in ("some", "every"):
            for sort in ("integer", "text", "object"):
                self.check_where(f"{word} x in |b.also ({SORTS[sort][0]})", DIFFER)
            self.check_where(f"{word} x in |b.also (:p)", DIFFER)
            self.check_where(f"{word} x in |b.also (x.price) and b.nothing = 1", DIFFER)
            self.check_where(f"{word} x in b.also (x.|nothing)", "no such field")

    def test_totals(self):
        asked = {"sum": ("integer",), "least": ("integer", "text"), "greatest": ("integer", "text")}
        for word, sorts in asked.items():
            for sort, sides in SORTS.items():
                if sort in sorts:
                    self.check_give(f"{word}(x in b.also: {sides[0]})")
                else:
                    self.check_give(f"|{word}(x in b.also: {sides[0]})", DIFFER)
            self.check_give(f"|{word}(x in b.also: :p)", DIFFER)
            self.check_give(f"{word}(x in b.also: (b.price = 1)|", "expected )")
        self.check_give("least(x in b.also: x.title) |+ 1", DIFFER)
        self.check_give("least(x in b.also: x.price) + 1")


class PathTest(SortCase):
    def test_names(self):
        self.check_faults(read, [
            ("from Book b give |x", "no such name"),
            ("from Book b give |x.price", "no such name"),
            ("from Book b where |x.price = 1 give b", "no such name"),
            ("from Book b group by |x give b", "no such name"),
            ("from Book b give count(|x.also)", "no such name"),
            ("from Book b where some x in |x.also (x.price = 1) give b", "no such name"),
            ("from Book b where some x in b.also (x.price = 1) and |x.price = 1 give b", "no such name"),
            ("from Book b give sum(x in b.also: x.price) + |x.price", "no such name"),
            ("from Book b where some |b in b.also (b.price = 1) give b", "name twice"),
            ("from Book b where some |b oops", "name twice"),
            ("from Book b where some x in b.also (some |x in b.also (x.price = 1)) give b", "name twice"),
            ("from Book b give sum(|b in b.also: b.price)", "name twice"),
            ("from Book b give sum(x in b.also: sum(|x in b.also: x.price))", "name twice"),
        ])
        self.check_where("some x in b.also (some y in x.also (y = x and y = b))")
        self.check_where("some x in b.also (x = b) or every x in b.also (x = b)")
        self.check_give("sum(x in b.also: x.price), least(x in b.also: x.price)")

    def test_points(self):
        self.check_faults(read, [
            ("from Book b give b.|nothing", "no such field"),
            ("from Book b give b.price.|price", "not a reference"),
            ("from Book b give b.title.|nothing", "not a reference"),
            ("from Book b give b.state.|price", "not a reference"),
            ("from Book b give b.also.|price", "a list"),
            ("from Book b give b.author.books.|nothing", "a list"),
            ("from Book b give b.author.|title", "no such field"),
            ("from Book b give b.author.best.|name", "no such field"),
            ("from Book b give count(b.also.|also)", "a list"),
            ("from Book b group by b.also.|price give b", "a list"),
        ])

    def test_several_kinds(self):
        self.check_give("b.any.born + 1, b.any.best, b.any.name, count(b.any.books)")
        self.check_faults(read, [
            ("from Book b give b.any.|mine", "no such field"),
            ("from Book b give b.any.|other", "no such field"),
            ("from Book b give b.any.|price", DIFFER),
            ("from Book b give b.any.|link", DIFFER),
            ("from Book b give b.any.best.|name", "no such field"),
            ("from Book b give b.any.|title", "no such field"),
        ])
        self.check_give("b.any.best.price, least(x in b.any.books: x.price)")
        self.check_where("some x in b.mixed (x.name = \"a\" and x.born = 1 and x.best = x.best and "
                         "some y in x.books (y.price = 1))")
        self.check_where("some x in b.mixed (x.|price = 1)", DIFFER)
        self.check_where("some x in b.mixed (x.|mine = 1)", "no such field")
        self.check_where("some x in b.any.books (x.price = 1 and x.|name = 1)", "no such field")

    def test_kinds_are_named_once(self):
        shapes = [SCHEMA.field_of("Book", name).shape for name in ("any", "author", "mixed")]
        self.assertEqual(kinds_of_shapes(shapes), ["Shop", "Author"])

    def test_lists(self):
        self.check_faults(read, [
            ("from Book b give |b.also", "a list"),
            ("from Book b give |b.also + 1", "a list"),
            ("from Book b where |b.also is null give b", "a list"),
            ("from Book b where b = |b.also give b", "a list"),
            ("from Book b group by |b.also give b", "a list"),
            ("from Book b group by b.price, |b.author.books give b", "a list"),
            ("from Book b give count(|b)", "not a list"),
            ("from Book b give count(|b.price)", "not a list"),
            ("from Book b give count(|b.author oops", "not a list"),
            ("from Book b where some x in |b (x.price = 1) give b", "not a list"),
            ("from Book b where every x in |b.author (x.price = 1) give b", "not a list"),
            ("from Book b where every x in |b.title oops", "not a list"),
            ("from Book b give sum(x in |b.price: 1)", "not a list"),
            ("from Book b group all give sum(|b.also)", "a list"),
            ("from Book b group all give sum(|b.also oops", "a list"),
        ])


class GroupTest(SortCase):
    def test_totals_of_groups(self):
        for start in ("from Book b group all ", "from Book b group by b.state "):
            self.check_give("count(), sum(b.price), least(b.title), greatest(b.author.best.price), least(b.state)",
                            None, start)
            self.check_give("count() + sum(b.price) * 2", None, start)
            self.check_give("|sum(b.title)", DIFFER, start)
            self.check_give("|sum(b)", DIFFER, start)
            self.check_give("|least(b.author)", DIFFER, start)
            self.check_give("greatest(|b.also)", "a list", start)
            self.check_give("sum(b.title|", "expected )", start)
            self.check_give("sum(b.|nothing)", "no such field", start)
            self.check_give("sum(|x.price)", "no such name", start)
            read(start + "order by count() down, sum(b.price) give 1")

    def test_no_group(self):
        self.check_faults(read, [
            ("from Book b give |count()", "no group"),
            ("from Book b give |sum(b.price)", "no group"),
            ("from Book b give |least(b oops", "no group"),
            ("from Book b give |least(x.price)", "no group"),
            ("from Book b give |least(b.nothing)", "no group"),
            ("from Book b order by |greatest(b.title) give b", "no group"),
            ("from Book b where |count() = 1 give b", "no group"),
            ("from Book b where |count() = 1 group all give 1", "no group"),
            ("from Book b where |sum(b.price) = 1 group by b give b", "no group"),
            ("from Book b where some x in b.also (|sum(x.price) = 1) group by b give b", "no group"),
            ("from Book b give sum(|5)", "expected a name"),
            ("from Book b give count(|5)", "expected a name"),
            ("from Book b give 1 + |count() + b.nothing", "no group"),
        ])

    def test_paths_of_groups(self):
        start = "from Book b group by b.state, b.author, b.author.name "
        self.check_give("b.state, b.author, b.author.name, -count(), 5", None, start)
        self.check_faults(read, [
            (start + "give |b", "not in the groups"),
            (start + "give |b.price", "not in the groups"),
            (start + "give |b.author.born", "not in the groups"),
            (start + "order by |b.title give 1", "not in the groups"),
            (start + "give count(|b.also)", "not in the groups"),
            (start + "give count(|b.price)", "not in the groups"),
            (start + "give |b.also", "not in the groups"),
            (start + "give sum(x in |b.also: x.price)", "not in the groups"),
            (start + "give sum(x in |b.price: x.price)", "not in the groups"),
            (start + "give b.|nothing", "no such field"),
            ("from Book b group all give |b", "not in the groups"),
            ("from Book b group all give |b.price", "not in the groups"),
            ("from Book b group all order by |b.price down give 1", "not in the groups"),
            ("from Book b group by b give |b.price", "not in the groups"),
            ("from Book b group by b.author give |b", "not in the groups"),
        ])
        read("from Book b group by b give b")
        read("from Book b where b.title = \"a\" and count(b.also) = 1 group by b.state give b.state")

    def test_total_of_a_path_of_another_name(self):
        # Only the paths of the name behind "from" are asked for among the groups.
        text = "from Author a group by a.best give {}"
        self.assertEqual(self.told_fault(lambda: read(text.format("count(a.books)"))),
                         (text.index("{") + len("count("), "not in the groups"))


class DepthTest(SortCase):
    def test_parentheses(self):
        self.check_give("((((((b.price))))))")
        self.check_give("((((((|(b.price)))))))", "too deep")
        self.check_give("((((((|(", "too deep")
        self.check_give("(b.price) + (b.price) * (1) + (1) + (1) + (1) + (1) + (1)")

    def test_words(self):
        for word in ("some", "every"):
            self.check_where(f"((((({word} x in b.also (x.price = 1))))))")
            self.check_where(f"((((((|{word} x in b.also (x.price = 1)))))))", "too deep")
            self.check_where(f"((((({word} x in b.also (|(x.price = 1)))))))", "too deep")
            self.check_where(f"((((((|{word} 5", "too deep")
        for word in ("sum", "least", "greatest"):
            self.check_give(f"((((({word}(x in b.also: x.price))))))")
            self.check_give(f"((((((|{word}(x in b.also: x.price)))))))", "too deep")
            self.check_give(f"((((({word}(x in b.also: |(x.price)))))))", "too deep")
            self.check_give(f"((((((|{word} 5", "too deep")
            self.check_give(f"((((({word}(b.price))))))", None, "from Book b group all ")
            self.check_give(f"((((((|{word}(b.price)))))))", "too deep", "from Book b group all ")
            self.check_give(f"((((((|{word}(b.price)))))))", "too deep")
        self.check_where("some x1 in b.also (" + "".join(f"some x{at} in b.also (" for at in range(2, 7)) + "b.price = 1"
                         + ")" * 6)

    def test_what_stands_beside_one_another(self):
        some = "some x in b.also (x.price = 1)"
        self.check_where(" and ".join([some] * 8))
        self.check_give(" + ".join(["sum(x in b.also: x.price)"] * 8))
        self.check_give(" + ".join(["sum(b.price)"] * 8), None, "from Book b group all ")
        seven = "(((((((b.price = 1)))))))"
        self.check_where(f"{some} and {seven[:6]}|{seven[6:]}", "too deep")
        self.check_where(f"(b.price = 1) and {seven[:6]}|{seven[6:]}", "too deep")

    def test_what_does_not_count(self):
        self.check_give("((((((count(b.also)))))))")
        self.check_give("((((((count()))))))", None, "from Book b group all ")
        self.check_where("((((((b.price in (1, 2)))))))")
        self.check_where("((((((b.price in (1, |(2))))))))", "too deep")
        self.check_where("(((((b.price in (1, (2)))))))")
        self.check_where("some x in b.also ((((((x.price = 1))))))")
        self.check_where("some x in b.also ((((((|(x.price = 1)))))))", "too deep")


class ManyTest(SortCase):
    def test_terms(self):
        self.check_give("1, 2, 3, 4, 5, 6")
        self.check_give("1, 2, 3, 4, 5, 6, |7", "too many terms")
        self.check_give("1, 2, 3, 4, 5, 6, |", "too many terms")
        read("from Book b order by 1, 2 down, 3, 4 give 1")
        self.check_fault(read, "from Book b order by 1, 2, 3, 4 down, |5 give 1", "too many terms")
        read("from Book b group by b, b, b, b.price give b")
        self.check_fault(read, "from Book b group by b, b, b, b.price, |b.nothing give b", "too many terms")
        self.check_fault(read, "from Book b group by b, b, b, b.price, |give", "too many terms")
        self.check_where("b.price in (1, 2, 3, 4, 5, 6, 7, 8)")


class ParameterTest(SortCase):
    def sorts(self, text):
        return read(text).parts.parameters

    def test_sorts(self):
        rows = [
            (":p = b.price", "integer"), ("b.title != :p", "text"), (":p = b", "object"), ("b.any = (((:p)))", "object"),
            (":p < 5", "integer"), ('"a" >= :p', "text"), (":p starts b.title", "text"), ("b.title holds :p", "text"),
            (":p + 1 = 2", "integer"), ("-:p = 2", "integer"), ("--(:p) = 2", "integer"), (":p * :p = 4", "integer"),
            (":p starts :p", "text"), (":p in (1)", "integer"), (":p in (:p, \"a\")", "text"), ("b in (:p)", "object"),
            ("b.price in (1, :p, :p)", "integer"), (":p = -:p", "integer"),
        ]
        for test, sort in rows:
            with self.subTest(text=test):
                self.assertEqual(self.sorts(f"from Book b where {test} give b"), {"p": sort})
        self.assertEqual(self.sorts("from Book b give b skip :p first :q"), {"p": "integer", "q": "integer"})

    def test_in_the_order_of_the_text(self):
        text = ("from Book b where :c = b.price and (:a = 1 or :c in (:d, 2)) order by :e + 1 give :b + :a "
                "skip :z first :c")
        self.assertEqual(list(self.sorts(text)), ["c", "a", "d", "e", "b", "z"])

    def test_where_they_may_not_stand(self):
        self.check_faults(read, [
            ("from Book b where :p |= :q give b", DIFFER),
            ("from Book b where :p |< :p give b", DIFFER),
            ("from Book b where :p |!= (:q) give b", DIFFER),
            ("from Book b where :p |in (:q, :r) give b", DIFFER),
            ("from Book b where :p |and b.price = 1 give b", DIFFER),
            ("from Book b where b.price = 1 |or :p give b", DIFFER),
            ("from Book b where :p |and :q give b", DIFFER),
            ("from Book b where |not :p give b", DIFFER),
            ("from Book b where :p |= (b.price = 1) give b", DIFFER),
            ("from Book b where :p |in ((b.price = 1)) give b", DIFFER),
            ("from Book b where :p |< b.author give b", DIFFER),
            ("from Book b where :p |starts 5 give b", DIFFER),
            ("from Book b where :p |+ b.title = 1 give b", DIFFER),
        ])

    def test_two_sorts_in_one_term(self):
        self.check_faults(read, [
            ("from Book b where b.price = :p |and b.title = :p give b", DIFFER),
            ("from Book b where b.price = :p |or b = :p give b", DIFFER),
            ("from Book b where b.price = :p or b.price = 1 |or b = :p give b", DIFFER),
            ("from Book b where b.title = :p |or b.price = -:p give b", DIFFER),
            ("from Book b where not (b.price = :p |and b.title = :p) give b", DIFFER),
            ("from Book b where (b.price = :p and b.price = 1) |or b.title starts :p give b", DIFFER),
            ("from Book b where b.price = :p |and some x in b.also (x.title = :p) give b", DIFFER),
            ("from Book b where -:p in (1, 2) |and b.author = :p give b", DIFFER),
            ("from Book b where sum(x in b.also: x.price + :p) = 1 |and every y in b.also (y.title in (:p)) give b", DIFFER),
            ("from Book b where some x in b.also (x.price = :p |or x.title = :p) give b", DIFFER),
        ])

    def test_two_sorts_in_different_terms(self):
        self.check_faults(read, [
            ("from Book b where b.title = :p give |b.price + :p", DIFFER),
            ("from Book b where b.title = :p order by b.price + :p give |b", DIFFER),
            ("from Book b where b.title = :p give |(b) skip :p", DIFFER),
            ("from Book b where b = :p give |b, b.price first :p", DIFFER),
            ("from Book b where b.title = :p give b first :p |oops", "expected the end"),
        ])
        read("from Book b where b.price = :p order by :p + 1 give :p + 2 skip :p first :p")

    def test_objects_of_different_kinds_are_one_sort(self):
        self.check_where("b = :p or b.author = :p or b.any = :p")


class OrderTest(SortCase):
    def test_the_first_fault_from_left_to_right(self):
        self.check_faults(read, [
            ("from |Nothing b give 5 5", "no such kind"),
            ("from Book b where |b.price give b.nothing", DIFFER),
            ("from Book b where b.|nothing = 1 give b 5", "no such field"),
            ("from Book b give b.title |+ 1 + b.nothing", DIFFER),
            ("from Book b give b.title + b.|nothing", "no such field"),
            ("from Book b give 1 + b.title |* 2", DIFFER),
            ("from Book b give b.title |+ 1 * 2 * 3", DIFFER),
            ("from Book b where b.price = 1 or b.price |and b.price = 2 give b", DIFFER),
            ("from Book b where not b.price |= b.title give b", DIFFER),
            ("from Book b give -(b.title |+ 1)", DIFFER),
            ("from Book b give |-b.title + b.nothing", DIFFER),
            ("from Book b give |b.price = 1, b.nothing", DIFFER),
            ("from Book b order by |b.price = 1 down oops", DIFFER),
            ("from Book b where |b.price oops", DIFFER),
            ("from Book b give sum(x in b.also: x.|nothing", "no such field"),
            ("from Book b give |sum(x in b.also: x.title) + b.title", DIFFER),
        ])


if __name__ == "__main__":
    unittest.main()
