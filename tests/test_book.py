"""Points 54 to 56: books, their names and formulas, the deeds with their errors, and what each deed has changed."""

import copy
import unittest

from circlesettle.book import Book
from circlesettle.errors import (
    BadAmount, BadCell, BadForm, BadName, BadShift, BadSize, InUse, NothingToRedo, NothingToUndo, SheetError, TooDeep,
    UnknownName,
)
from circlesettle.greatest import greatest_solution
from circlesettle.least import least_solution

N = None
FIVE = ("amount", 5)
NO_NAMES = ["", "1", "9a", "abcdefghijklm", "a" * 13, "A", "aB", "a b", " a", "a ", "a_b", "_a", "a-b", "a.b", "a\n", "\n",
            "\u00e4", "a\u00b2", "a\u0663", "\u00df", "`", "{", "a/", "a:", "a%", 0, 1, -1, N, True, False, b"a", [], ["a"],
            (), ("a",), {}, {"a": 1}, 10 ** 30, object(), 1.5]
NAMES = ["a", "z", "a0", "a9", "z0123456789", "abcdefghijkl", "a1b2c3d4e5f6", "zzzzzzzzzzzz", "cell", "when", "amount"]


def nested(inner, depth):
    for _ in range(depth):
        inner = ("more", inner, 1)
    return inner


def three():
    """a is 5, b adds 1 to it in a circle with c, and c lets b through from 3 on."""
    book = Book()
    book.put("a", FIVE)
    book.put("b", ("greatest", [("more", ("cell", "a"), 1), ("amount", 2)]))
    book.put("c", ("when", "b", 3, ("least", [("cell", "c"), ("cell", "b")])))
    return book


def state(book):
    """Everything that can be asked of a book."""
    names = book.names()
    return copy.deepcopy((names, len(book), [book.formula(name) for name in names],
                          [(book.least(name), book.greatest(name), book.is_settled(name)) for name in names],
                          [book.users(name) for name in names], book.sheet(), book.can_undo, book.can_redo, book.journal()))


class Books(unittest.TestCase):
    def fails(self, book, error, method, *arguments):
        """The deed raises just this error, and the book stays as it was."""
        before = state(book)
        with self.subTest(method=method, arguments=repr(arguments)):
            with self.assertRaises(SheetError) as caught:
                getattr(book, method)(*arguments)
            self.assertIs(type(caught.exception), error)
            self.assertEqual(state(book), before)


class TestEmptyBook(Books):
    def test_a_book_without_cells(self):
        book = Book()
        self.assertEqual((book.names(), len(book), book.sheet(), book.journal()), ([], 0, [], []))
        self.assertIs(book.can_undo, False)
        self.assertIs(book.can_redo, False)
        self.assertIs("a" in book, False)
        self.assertEqual(book.do_all([]), [])
        self.assertEqual(book.what_if([]), [])
        for method in ("formula", "least", "greatest", "is_settled", "users"):
            self.fails(book, UnknownName, method, "a")
        self.fails(book, UnknownName, "remove", "a")
        self.fails(book, UnknownName, "rename", "a", "b")
        self.fails(book, NothingToUndo, "undo")
        self.fails(book, NothingToRedo, "redo")

    def test_a_book_that_has_lost_its_cells(self):
        book = Book()
        book.put("a", FIVE)
        self.assertEqual(book.remove("a"), [])
        self.assertEqual((book.names(), len(book), book.sheet()), ([], 0, []))
        self.assertEqual(book.undo(), ["a"])
        self.assertEqual(book.undo(), [])
        self.assertEqual(book.sheet(), [])

    def test_the_example_of_the_document(self):
        book = Book()
        self.assertEqual(book.put("a", ("least", [("more", ("cell", "a"), 1), ("amount", 5)])), ["a"])
        self.assertEqual(book.least("a"), 5)
        self.assertEqual(book.put("b", ("cell", "b")), ["b"])
        self.assertIsNone(book.greatest("b"))
        self.assertEqual(book.rename("a", "c"), ["c"])


class TestAsking(Books):
    def test_names_and_formulas(self):
        book = three()
        self.assertEqual(book.names(), ["a", "b", "c"])
        self.assertEqual(len(book), 3)
        self.assertEqual([name in book for name in ("a", "b", "c", "d", "")], [True, True, True, False, False])
        self.assertEqual(book.formula("a"), FIVE)
        self.assertEqual(book.formula("c"), ("when", "b", 3, ("least", [("cell", "c"), ("cell", "b")])))

    def test_the_sheet_has_places_for_names(self):
        self.assertEqual(three().sheet(), [
            FIVE, ("greatest", [("more", ("cell", 0), 1), ("amount", 2)]),
            ("when", 1, 3, ("least", [("cell", 2), ("cell", 1)]))])

    def test_amounts(self):
        book = three()
        self.assertEqual([book.least(name) for name in "abc"], [5, 6, 0])
        self.assertEqual([book.greatest(name) for name in "abc"], [5, 6, 6])
        self.assertEqual([book.is_settled(name) for name in "abc"], [True, True, False])
        self.assertEqual(least_solution(book.sheet()), [5, 6, 0])
        self.assertEqual(greatest_solution(book.sheet()), [5, 6, 6])
        book.put("d", ("more", ("cell", "d"), 1))
        self.assertEqual((book.least("d"), book.greatest("d"), book.is_settled("d")), (N, N, True))
        book.put("d", ("cell", "d"))
        self.assertEqual((book.least("d"), book.greatest("d"), book.is_settled("d")), (0, N, False))

    def test_users(self):
        book = three()
        self.assertEqual([book.users(name) for name in "abc"], [["b"], ["c"], ["c"]])
        book.put("a", ("when", "a", 2, ("cell", "c")))
        self.assertEqual([book.users(name) for name in "abc"], [["a", "b"], ["c"], ["a", "c"]])
        book.put("a", FIVE)
        self.assertEqual([book.users(name) for name in "abc"], [["b"], ["c"], ["c"]])

    def test_names_that_are_not_there(self):
        book = three()
        for method in ("formula", "least", "greatest", "is_settled", "users"):
            for name in ("d", "", "A", "ab"):
                self.fails(book, UnknownName, method, name)


class TestPut(Books):
    def test_names(self):
        for name in NAMES:
            book = Book()
            self.assertEqual(book.put(name, ("cell", name)), [name])
            self.assertEqual(book.names(), [name])
            self.assertIs(name in book, True)
        for name in NO_NAMES:
            self.fails(three(), BadName, "put", name, FIVE)

    def test_a_new_one_is_the_last_one_and_one_that_is_there_keeps_its_place(self):
        book = three()
        book.put("aa", ("amount", 1))
        self.assertEqual(book.names(), ["a", "b", "c", "aa"])
        book.put("b", ("amount", 1))
        self.assertEqual(book.names(), ["a", "b", "c", "aa"])
        self.assertEqual(book.formula("b"), ("amount", 1))
        self.assertEqual([book.least(name) for name in book.names()], [5, 1, 0, 1])

    def test_what_has_changed(self):
        book = three()
        self.assertEqual(book.put("d", ("cell", "c")), ["d"])
        self.assertEqual(book.put("a", ("amount", 8)), ["a", "b", "c", "d"])
        self.assertEqual([book.greatest(name) for name in "abcd"], [8, 9, 9, 9])
        self.assertEqual(book.put("a", ("amount", 1)), ["a", "b", "c", "d"])
        self.assertEqual([book.greatest(name) for name in "abcd"], [1, 2, 0, 0])
        self.assertEqual(book.put("a", ("amount", 0)), ["a"])
        self.assertEqual(book.put("a", ("more", ("amount", 2), -2)), [])
        self.assertEqual(book.put("a", ("more", ("amount", 2), -2)), [])
        # Another greatest amount alone, and another least amount alone.
        self.assertEqual(book.put("d", ("cell", "d")), ["d"])
        self.assertEqual((book.least("d"), book.greatest("d")), (0, N))
        self.assertEqual(book.put("d", ("greatest", [("cell", "d"), ("amount", 3)])), ["d"])
        self.assertEqual((book.least("d"), book.greatest("d")), (3, N))

    def test_a_formula_that_uses_its_own_name_and_names_in_circles(self):
        book = Book()
        self.assertEqual(book.put("x", ("least", [("more", ("cell", "x"), 1), ("amount", 9)])), ["x"])
        self.assertEqual(book.put("y", ("when", "y", 1, ("cell", "x"))), ["y"])
        self.assertEqual((book.least("y"), book.greatest("y")), (0, 9))
        self.assertEqual(book.put("x", ("cell", "y")), ["x", "y"])
        self.assertEqual((book.least("x"), book.greatest("x")), (0, N))
        self.assertEqual(book.users("x"), ["y"])

    def test_errors_of_the_formula(self):
        for formula, error in [
            (nested(FIVE, 6), TooDeep), (nested(("cell", "a"), 6), TooDeep), (("less", 5), BadForm), (("amount",), BadForm),
            (("amount", 5, 5), BadForm), (("cell",), BadForm), (("more", FIVE), BadForm), (("when", "a", 3), BadForm),
            (("least", [], []), BadForm), (("amount", -1), BadAmount), (("amount", 1000), BadAmount), (("amount", True), BadAmount),
            (("amount", "5"), BadAmount), (("more", FIVE, 1000), BadShift), (("more", FIVE, -1000), BadShift),
            (("more", FIVE, N), BadShift), (("more", FIVE, False), BadShift), (("least", []), BadSize),
            (("greatest", [FIVE] * 7), BadSize), (("when", "a", 0, FIVE), BadAmount), (("when", "a", 1000, FIVE), BadAmount),
            (("when", "a", True, FIVE), BadAmount), (("when", "a", N, FIVE), BadAmount),
        ]:
            self.fails(three(), error, "put", "d", formula)
            self.fails(three(), error, "put", "a", formula)
            self.fails(three(), error, "put", "d", ("least", [FIVE, formula]) if error is not TooDeep else formula)

    def test_formulas_at_the_limits(self):
        book = three()
        for formula in (nested(("cell", "a"), 5), ("amount", 999), ("amount", N), ("more", FIVE, 999), ("more", FIVE, -999),
                        ("greatest", [FIVE] * 6), ("when", "a", 999, FIVE), ("when", "a", 1, FIVE)):
            book.put("d", formula)
            self.assertEqual(book.formula("d"), formula)

    def test_cells_in_formulas_that_are_no_names(self):
        for name in NO_NAMES:
            self.fails(three(), BadCell, "put", "d", ("cell", name))
            self.fails(three(), BadCell, "put", "a", ("least", [FIVE, ("when", name, 3, FIVE)]))

    def test_names_in_formulas_that_are_not_there(self):
        for formula in (("cell", "d"), ("when", "d", 3, FIVE), ("when", "a", 3, ("cell", "d")),
                        ("least", [("cell", "a"), ("more", ("cell", "d"), 1)])):
            self.fails(three(), UnknownName, "put", "e", formula)
            self.fails(three(), UnknownName, "put", "a", formula)
            self.assertEqual(three().put("d", formula), ["d"])

    def test_24_cells_and_one_more(self):
        book = Book()
        for number in range(24):
            book.put(f"n{number}", ("amount", number))
        self.assertEqual(len(book), 24)
        self.fails(book, BadSize, "put", "more", FIVE)
        self.assertEqual(book.put("n7", ("cell", "n23")), ["n7"])
        self.assertEqual(book.put("n8", ("amount", 8)), [])
        book.remove("n0")
        self.assertEqual(book.put("more", ("cell", "n1")), ["more"])
        self.fails(book, BadSize, "put", "n0", FIVE)
        self.assertEqual(book.names()[-1], "more")

    def test_the_first_of_two_errors_counts(self):
        full = Book()
        for number in range(24):
            full.put(f"n{number}", FIVE)
        for formula, error in [
            (("less", 5), BadForm), (("cell", "A"), BadCell), (("cell", "no"), UnknownName), (FIVE, BadSize),
            (("least", [("cell", "no"), ("amount", -1)]), BadAmount), (("least", [("cell", "no"), ("cell", "A")]), BadCell),
            (("least", [("cell", "A"), ("amount", -1)]), BadCell), (("least", [("amount", -1), ("cell", "A")]), BadAmount),
            (("when", "A", 0, FIVE), BadCell), (("when", "no", 0, FIVE), BadAmount), (("when", 0, 0, FIVE), BadCell),
            (("when", "A", 3), BadForm), (("more", ("cell", "A"), 1000), BadShift), (("least", [("cell", "A")] * 7), BadSize),
            (nested(("cell", "A"), 6), TooDeep), (("greatest", [nested(("less",), 5), ("cell", 0)]), TooDeep),
            (("greatest", [("cell", 0), nested(("less",), 5)]), BadCell), (("when", "n1", 0, ("cell", "A")), BadAmount),
        ]:
            self.fails(full, BadName, "put", "No", formula)
            self.fails(full, error, "put", "more", formula)
            if error is not BadSize or formula[0] == "least":
                self.fails(full, error, "put", "n0", formula)
        self.assertEqual(full.put("n0", ("cell", "n1")), [])


class TestRemove(Books):
    def test_removing(self):
        book = three()
        self.assertEqual(book.remove("c"), [])
        self.assertEqual(book.names(), ["a", "b"])
        self.assertIs("c" in book, False)
        self.assertEqual(book.remove("b"), [])
        self.assertEqual(book.remove("a"), [])
        self.assertEqual(book.names(), [])

    def test_one_that_uses_itself_alone(self):
        book = three()
        self.assertEqual(book.formula("c")[3][1][0], ("cell", "c"))
        self.assertEqual(book.remove("c"), [])
        book.put("d", ("when", "d", 3, ("cell", "d")))
        self.assertEqual(book.remove("d"), [])

    def test_places_behind_it(self):
        book = three()
        book.put("b", ("amount", 4))
        book.put("c", ("when", "c", 2, ("cell", "b")))
        self.assertEqual(book.remove("a"), [])
        self.assertEqual(book.sheet(), [("amount", 4), ("when", 1, 2, ("cell", 0))])
        self.assertEqual((book.least("c"), book.greatest("c")), (0, 4))

    def test_errors(self):
        book = three()
        for name in ("d", "", "A", "ab"):
            self.fails(book, UnknownName, "remove", name)
        self.fails(book, InUse, "remove", "a")
        self.fails(book, InUse, "remove", "b")
        book.put("a", ("cell", "a"))
        self.fails(book, InUse, "remove", "a")
        book.put("b", ("when", "c", 2, FIVE))
        book.put("c", FIVE)
        self.fails(book, InUse, "remove", "c")
        self.assertEqual(book.remove("a"), [])


class TestRename(Books):
    def test_renaming(self):
        book = three()
        self.assertEqual(book.rename("b", "x"), ["x"])
        self.assertEqual(book.names(), ["a", "x", "c"])
        self.assertEqual(book.formula("c"), ("when", "x", 3, ("least", [("cell", "c"), ("cell", "x")])))
        self.assertEqual(book.formula("x"), ("greatest", [("more", ("cell", "a"), 1), ("amount", 2)]))
        self.assertEqual(book.sheet(), three().sheet())
        self.assertEqual([book.least(name) for name in book.names()], [5, 6, 0])
        self.assertIs("b" in book, False)
        self.assertEqual(book.users("x"), ["c"])

    def test_one_that_uses_itself(self):
        book = three()
        self.assertEqual(book.rename("c", "a1"), ["a1"])
        self.assertEqual(book.formula("a1"), ("when", "b", 3, ("least", [("cell", "a1"), ("cell", "b")])))
        self.assertEqual(book.names(), ["a", "b", "a1"])

    def test_the_same_name_again(self):
        book = three()
        before = state(book)
        self.assertEqual(book.rename("b", "b"), [])
        self.assertEqual(state(book)[:6], before[:6])
        self.assertEqual(book.journal()[-1], ("rename", "b", "b"))
        book.undo()
        self.assertEqual(book.rename("a", "a"), [])
        self.assertIs(book.can_redo, False)

    def test_names_that_are_words_of_deeds_and_formulas(self):
        book = three()
        for name, other in [("a", "undo"), ("undo", "redo"), ("redo", "put"), ("put", "rename"), ("rename", "remove"),
                            ("remove", "cell")]:
            self.assertEqual(book.rename(name, other), [other])
            self.assertEqual(book.names(), [other, "b", "c"])
            self.assertEqual(book.formula("b"), ("greatest", [("more", ("cell", other), 1), ("amount", 2)]))
        book.put("undo", ("when", "undo", 1, ("cell", "cell")))
        self.assertEqual(book.formula("undo"), ("when", "undo", 1, ("cell", "cell")))
        self.assertEqual(book.remove("undo"), [])

    def test_a_name_that_has_become_free(self):
        book = three()
        book.rename("a", "x")
        self.assertEqual(book.rename("b", "a"), ["a"])
        self.assertEqual(book.names(), ["x", "a", "c"])
        self.assertEqual(book.formula("a"), ("greatest", [("more", ("cell", "x"), 1), ("amount", 2)]))

    def test_errors(self):
        book = three()
        for name in ("d", "", "A"):
            self.fails(book, UnknownName, "rename", name, "e")
            self.fails(book, UnknownName, "rename", name, "E")
            self.fails(book, UnknownName, "rename", name, "a")
            self.fails(book, UnknownName, "rename", name, name)
        for other in NO_NAMES + ["b", "c"]:
            self.fails(book, BadName, "rename", "a", other)


class TestOwnLists(Books):
    FORMULA = ("greatest", [("more", ("cell", "a"), 1), ("least", [("amount", 2), ("cell", "a")])])

    def test_what_is_handed_in_can_be_changed(self):
        formula = copy.deepcopy(self.FORMULA)
        book = three()
        book.put("b", formula)
        self.assertEqual(formula, self.FORMULA)
        before = state(book)
        formula[1][1][1].clear()
        formula[1].append(("cell", "zz"))
        self.assertEqual(state(book), before)
        self.assertEqual(book.undo(), [])
        self.assertEqual(book.redo(), [])
        self.assertEqual(book.formula("b"), self.FORMULA)

    def test_lists_that_are_shared_in_what_is_handed_in(self):
        inner = [("cell", "a"), ("amount", 2)]
        book = three()
        book.put("b", ("greatest", [("least", inner), ("greatest", inner)]))
        told = book.formula("b")
        told[1][0][1].clear()
        self.assertEqual(told[1][1], ("greatest", inner))

    def test_what_is_returned_can_be_changed(self):
        book = three()
        book.put("b", self.FORMULA)
        before = state(book)
        book.names().clear()
        book.users("a").append("x")
        formula = book.formula("b")
        formula[1][1][1].clear()
        formula[1].clear()
        sheet = book.sheet()
        sheet[1][1][1][1].clear()
        sheet[1][1].clear()
        sheet.clear()
        for entry in book.journal():
            if entry[2] == self.FORMULA:
                entry[2][1][1][1].clear()
                entry[2][1].clear()
        book.journal().clear()
        book.what_if([]).clear()
        self.assertEqual(state(book), before)

    def test_what_a_deed_returns_can_be_changed(self):
        book = three()
        for call in (lambda: book.put("a", ("amount", 8)), book.undo, book.redo, lambda: book.rename("a", "q"),
                     lambda: book.do_all([("put", "w", FIVE)])):
            changed = call()
            before = state(book)
            changed.append("spoilt")
            self.assertEqual(state(book), before)

    def test_books_are_apart(self):
        first, second = three(), three()
        first.put("a", ("amount", 9))
        self.assertEqual(second.least("a"), 5)
        self.assertEqual(Book().names(), [])


if __name__ == "__main__":
    unittest.main()
