"""Points 55 to 57: undoing and redoing, deeds done together, what would be, journals, and replaying them."""

import copy
import random
import unittest

from circlesettle.book import Book, replay
from circlesettle.errors import (
    BadCell, BadEntry, BadName, BadSize, InUse, NothingToRedo, NothingToUndo, SheetError, UnknownName,
)
from circlesettle.greatest import greatest_solution
from circlesettle.least import least_solution
from reference import numbers_in, some_formula

N = None
FIVE = ("amount", 5)
A, B, C = ("cell", "a"), ("cell", "b"), ("cell", "c")


def state(book):
    names = book.names()
    return copy.deepcopy((names, len(book), [book.formula(name) for name in names],
                          [(book.least(name), book.greatest(name)) for name in names],
                          book.sheet(), book.can_undo, book.can_redo, book.journal()))


def pair():
    book = Book()
    book.put("a", FIVE)
    book.put("b", ("more", A, 2))
    return book


class TestUndoAndRedo(unittest.TestCase):
    def test_each_kind_of_deed(self):
        book = pair()
        for deed, there, changed, back, forth in [
            (("put", "c", A), ["a", "b", "c"], ["c"], [], ["c"]),
            (("put", "a", ("amount", 7)), ["a", "b"], ["a", "b"], ["a", "b"], ["a", "b"]),
            (("put", "a", ("amount", 5)), ["a", "b"], [], [], []),
            (("put", "b", ("cell", "b")), ["a", "b"], ["b"], ["b"], ["b"]),
            (("remove", "b"), ["a"], [], ["b"], []),
            (("rename", "a", "z"), ["z", "b"], ["z"], ["a"], ["z"]),
            (("rename", "a", "a"), ["a", "b"], [], [], []),
        ]:
            with self.subTest(deed=deed):
                before = state(book)
                self.assertEqual(book.do_all([deed]), changed)
                after = state(book)
                self.assertEqual(book.names(), there)
                self.assertEqual(book.undo(), back)
                self.assertEqual(state(book)[:5], before[:5])
                self.assertIs(book.can_redo, True)
                self.assertEqual(book.redo(), forth)
                self.assertEqual(state(book)[:7], after[:7])
                self.assertIs(book.can_redo, False)
                self.assertEqual(book.undo(), back)
                self.assertEqual(book.journal(), pair().journal() + [deed, ("undo",), ("redo",), ("undo",)])
            book = pair()

    def test_a_removed_name_comes_back_to_its_place(self):
        book = pair()
        book.put("c", FIVE)
        book.put("b", FIVE)
        book.remove("a")
        self.assertEqual(book.names(), ["b", "c"])
        self.assertEqual(book.undo(), ["a"])
        self.assertEqual(book.names(), ["a", "b", "c"])

    def test_several_back_and_forth(self):
        book = Book()
        states = [state(book)[:5]]
        deeds = [("put", "a", FIVE), ("put", "b", A), ("rename", "a", "x"), ("put", "x", ("amount", 1)), ("remove", "b"),
                 ("remove", "x")]
        for deed in deeds:
            book.do_all([deed])
            states.append(state(book)[:5])
        for number in range(len(deeds) - 1, -1, -1):
            self.assertIs(book.can_undo, True)
            book.undo()
            self.assertEqual(state(book)[:5], states[number])
        self.assertIs(book.can_undo, False)
        with self.assertRaises(NothingToUndo):
            book.undo()
        for number in range(1, len(states)):
            self.assertIs(book.can_redo, True)
            book.redo()
            self.assertEqual(state(book)[:5], states[number])
        self.assertIs(book.can_redo, False)
        with self.assertRaises(NothingToRedo):
            book.redo()

    def test_the_three_kinds_of_deeds_take_away_what_could_be_redone(self):
        for deed in (("put", "c", FIVE), ("put", "a", FIVE), ("remove", "a"), ("rename", "a", "a"), ("rename", "a", "q")):
            book = pair()
            book.undo()
            self.assertIs(book.can_redo, True)
            book.do_all([deed])
            self.assertIs(book.can_redo, False)
            with self.assertRaises(NothingToRedo):
                book.redo()
            book.undo()
            self.assertEqual(book.names(), ["a"])
            self.assertEqual(book.redo(), [name for name in (deed[-1] if deed[0] == "rename" else deed[1],)
                                           if name in ("c", "q")])

    def test_deeds_that_raise_errors_take_nothing_away(self):
        book = pair()
        book.undo()
        for error, deed in [(BadName, ("put", "A", FIVE)), (UnknownName, ("put", "c", B)), (BadCell, ("put", "c", ("cell", 0))),
                            (UnknownName, ("remove", "b")), (UnknownName, ("rename", "b", "c")), (BadName, ("rename", "a", ""))]:
            before = state(book)
            with self.assertRaises(error):
                book.do_all([deed])
            self.assertEqual(state(book), before)
        self.assertIs(book.can_redo, True)
        self.assertEqual(book.redo(), ["b"])

    def test_undo_and_redo_are_no_deeds_that_are_undone(self):
        book = pair()
        book.undo()
        book.redo()
        book.undo()
        self.assertEqual(book.names(), ["a"])
        book.undo()
        self.assertEqual(book.names(), [])
        self.assertIs(book.can_undo, False)

    def test_renaming_back_and_forth(self):
        book = pair()
        book.rename("a", "x")
        self.assertEqual(book.formula("b"), ("more", ("cell", "x"), 2))
        self.assertEqual(book.undo(), ["a"])
        self.assertEqual(book.formula("b"), ("more", A, 2))
        self.assertEqual(book.redo(), ["x"])
        self.assertEqual(book.formula("b"), ("more", ("cell", "x"), 2))


class TestDoAll(unittest.TestCase):
    def test_what_has_changed_from_before_the_first_one_to_behind_the_last_one(self):
        for deeds, changed in [
            ([], []),
            ([("put", "a", ("amount", 7)), ("put", "a", FIVE)], []),
            ([("put", "a", ("amount", 7)), ("put", "c", B)], ["a", "b", "c"]),
            ([("put", "c", B), ("remove", "c")], []),
            ([("put", "c", B), ("rename", "c", "d"), ("put", "c", A)], ["d", "c"]),
            ([("remove", "b"), ("put", "b", ("more", A, 2))], []),
            ([("remove", "b"), ("put", "b", ("more", A, 3))], ["b"]),
            ([("rename", "a", "x"), ("rename", "x", "a")], []),
            ([("rename", "a", "x"), ("rename", "b", "a"), ("rename", "x", "b")], ["b", "a"]),
            ([("put", "a", ("amount", 7)), ("undo",)], []),
            ([("undo",), ("undo",), ("redo",)], []),
            ([("undo",), ("put", "b", ("amount", 7))], []),
            ([("undo",), ("put", "b", ("cell", "b"))], ["b"]),
        ]:
            with self.subTest(deeds=deeds):
                book, other = pair(), pair()
                self.assertEqual(book.do_all(deeds), changed)
                for deed in deeds:
                    getattr(other, deed[0])(*deed[1:])
                self.assertEqual(state(book), state(other))
                self.assertEqual(book.journal(), pair().journal() + deeds)

    def test_each_of_several_deeds_is_undone_by_itself(self):
        book = pair()
        book.do_all([("put", "c", B), ("put", "d", C), ("rename", "d", "e")])
        book.undo()
        self.assertEqual(book.names(), ["a", "b", "c", "d"])
        book.undo()
        self.assertEqual(book.names(), ["a", "b", "c"])
        book.redo()
        self.assertEqual(book.names(), ["a", "b", "c", "d"])

    def test_one_that_raises_an_error(self):
        for deeds, error in [
            ([("put", "c", B), ("put", "C", B)], BadName), ([("put", "c", B), ("put", "d", ("cell", "e"))], UnknownName),
            ([("put", "c", B), ("put", "d", ("cell", 5)), ("put", "D", B)], BadCell), ([("put", "c", B), ("remove", "b")], InUse),
            ([("remove", "b"), ("undo",), ("redo",), ("redo",)], NothingToRedo),
            ([("undo",), ("undo",), ("undo",)], NothingToUndo), ([("redo",), ("redo",)], NothingToRedo),
            ([("put", "c", B), ("redo",)], NothingToRedo), ([("rename", "a", "x"), ("rename", "a", "y")], UnknownName),
            ([("put", f"n{number}", FIVE) for number in range(23)], BadSize), ([("remove", "z")], UnknownName),
        ]:
            book = pair()
            book.put("t", FIVE)
            book.undo()
            before = state(book)
            with self.subTest(deeds=deeds):
                with self.assertRaises(SheetError) as caught:
                    book.do_all(deeds)
                self.assertIs(type(caught.exception), error)
                self.assertEqual(state(book), before)
                with self.assertRaises(error):
                    book.what_if(deeds)
                self.assertEqual(state(book), before)
                self.assertEqual(book.redo(), ["t"])
                book.undo()
                book.undo()
                self.assertEqual(book.names(), ["a"])


class TestWhatIf(unittest.TestCase):
    def test_amounts_behind_the_deeds(self):
        book = pair()
        for deeds, answer in [
            ([], [("a", 5, 5), ("b", 7, 7)]),
            ([("put", "a", ("amount", N))], [("a", N, N), ("b", N, N)]),
            ([("put", "c", ("least", [C, B])), ("put", "a", ("amount", 1))], [("a", 1, 1), ("b", 3, 3), ("c", 0, 3)]),
            ([("remove", "b"), ("remove", "a")], []),
            ([("rename", "b", "x"), ("put", "b", B)], [("a", 5, 5), ("x", 7, 7), ("b", 0, N)]),
            ([("undo",)], [("a", 5, 5)]), ([("undo",), ("redo",)], [("a", 5, 5), ("b", 7, 7)]),
        ]:
            before = state(book)
            with self.subTest(deeds=deeds):
                self.assertEqual(book.what_if(deeds), answer)
                self.assertEqual(state(book), before)

    def test_what_could_be_redone_stays(self):
        book = pair()
        book.undo()
        self.assertEqual(book.what_if([("put", "z", FIVE)]), [("a", 5, 5), ("z", 5, 5)])
        self.assertEqual(book.what_if([("redo",)]), [("a", 5, 5), ("b", 7, 7)])
        self.assertEqual(book.redo(), ["b"])


class TestJournal(unittest.TestCase):
    def test_deeds_that_raised_no_error_in_order(self):
        book = Book()
        book.put("a", FIVE)
        for call in (lambda: book.put("a", ("cell", "z")), lambda: book.remove("z"), lambda: book.rename("a", "A"), book.redo):
            with self.assertRaises(SheetError):
                call()
        book.put("b", A)
        book.rename("a", "x")
        book.undo()
        book.redo()
        book.remove("b")
        book.rename("x", "x")
        self.assertEqual(book.journal(), [
            ("put", "a", FIVE), ("put", "b", A), ("rename", "a", "x"), ("undo",), ("redo",), ("remove", "b"),
            ("rename", "x", "x")])
        self.assertTrue(all(type(entry) is tuple for entry in book.journal()))

    def test_formulas_in_the_journal_keep_the_names_of_then(self):
        book = pair()
        book.rename("a", "x")
        self.assertEqual(book.journal()[1], ("put", "b", ("more", A, 2)))

    def test_replaying(self):
        book = pair()
        book.do_all([("put", "c", ("least", [C, B])), ("undo",), ("redo",), ("rename", "a", "x"), ("remove", "c"), ("undo",)])
        other = replay(book.journal())
        self.assertIsInstance(other, Book)
        self.assertEqual(state(other), state(book))
        self.assertEqual(other.redo(), book.redo())
        self.assertEqual(state(other), state(book))
        while book.can_undo:
            self.assertEqual(other.undo(), book.undo())
            self.assertEqual(state(other), state(book))
        self.assertEqual(state(replay([])), state(Book()))

    def test_an_entry_that_raises_an_error(self):
        right = [("put", "a", FIVE), ("put", "b", A), ("undo",), ("redo",)]
        for wrong in (("put", "B", A), ("put", "c", ("cell", "d")), ("put", "c", ("amount", -1)), ("put", "c", ("cell", [])),
                      ("remove", "a"), ("remove", "z"), ("rename", "z", "y"), ("rename", "a", "b"), ("rename", "a", N), ("redo",)):
            for place in (2, 4):
                with self.subTest(wrong=wrong, place=place):
                    with self.assertRaises(BadEntry) as caught:
                        replay(right[:place] + [wrong] + right[place:] + [("undo",)] * 9)
                    self.assertEqual(caught.exception.place, place)
        for journal, place in [([("undo",)], 0), ([("redo",)], 0), (right + [("undo",)] * 3, 6), ([("put", "a", B)], 0),
                               ([("put", f"n{number}", FIVE) for number in range(30)], 24)]:
            with self.assertRaises(BadEntry) as caught:
                replay(journal)
            self.assertEqual(caught.exception.place, place)

    def test_entries_can_be_changed_without_changing_the_book(self):
        formula = ("greatest", [("least", [FIVE, A])])
        deeds = [("put", "a", formula), ("put", "b", ("least", [A, B]))]
        for make in (replay, lambda entries: self.done(entries)):
            entries = copy.deepcopy(deeds)
            book = make(entries)
            self.assertEqual(entries, deeds)
            before = state(book)
            entries[0][2][1][0][1].clear()
            entries[1][2][1].append(FIVE)
            entries.append(("undo",))
            self.assertEqual(state(book), before)
            told = book.journal()
            told[0][2][1][0][1].clear()
            told[1][2][1].clear()
            told.clear()
            self.assertEqual(state(book), before)
            self.assertEqual(book.journal(), deeds)
            entries = copy.deepcopy(deeds)
            book.what_if(entries)
            self.assertEqual(entries, deeds)

    @staticmethod
    def done(entries):
        book = Book()
        book.do_all(entries)
        return book

    def test_long_journals(self):
        book = Book()
        for number in range(400):
            book.put("a", ("amount", number))
        for _ in range(400):
            book.undo()
        for _ in range(399):
            book.redo()
        self.assertEqual(book.least("a"), 398)
        self.assertEqual(len(book.journal()), 1199)
        self.assertEqual(state(replay(book.journal())), state(book))


class PlainBook:
    """A book by the words of the points: lists of states, each a list of tuples of a name and a formula."""

    def __init__(self):
        self.now, self.past, self.future, self.entries = [], [], [], []

    def amounts(self):
        names = [name for name, _ in self.now]
        if not names:
            return []
        sheet = [self.placed(formula, names) for _, formula in self.now]
        return list(zip(names, least_solution(sheet), greatest_solution(sheet)))

    def placed(self, formula, names):
        return self.mapped(formula, names.index)

    def mapped(self, formula, call):
        word = formula[0]
        if word == "cell":
            return (word, call(formula[1]))
        if word == "when":
            return (word, call(formula[1]), formula[2], self.mapped(formula[3], call))
        if word == "more":
            return (word, self.mapped(formula[1], call), formula[2])
        return formula if word == "amount" else (word, [self.mapped(inner, call) for inner in formula[1]])

    def used(self, formula):
        found = []
        self.mapped(formula, found.append)
        return found

    def do(self, deed):
        """The error that is due, or None when the deed is done."""
        names = [name for name, _ in self.now]
        if deed[0] in ("undo", "redo"):
            source, target = (self.past, self.future) if deed[0] == "undo" else (self.future, self.past)
            if not source:
                return NothingToUndo if deed[0] == "undo" else NothingToRedo
            target.append(self.now)
            self.now = source.pop()
            self.entries.append(deed)
            return None
        after = None
        if deed[0] == "put":
            if not deed[1].islower():
                return BadName
            if any(name not in names + [deed[1]] for name in self.used(deed[2])):
                return UnknownName
            if deed[1] in names:
                after = [(name, deed[2] if name == deed[1] else formula) for name, formula in self.now]
            elif len(names) == 24:
                return BadSize
            else:
                after = self.now + [(deed[1], deed[2])]
        elif deed[1] not in names:
            return UnknownName
        elif deed[0] == "remove":
            if any(deed[1] in self.used(formula) for name, formula in self.now if name != deed[1]):
                return InUse
            after = [each for each in self.now if each[0] != deed[1]]
        else:
            if not deed[2].islower() or deed[2] in [name for name in names if name != deed[1]]:
                return BadName
            after = [(deed[2] if name == deed[1] else name,
                      self.mapped(formula, lambda used: deed[2] if used == deed[1] else used)) for name, formula in self.now]
        self.past.append(self.now)
        self.now, self.future = after, []
        self.entries.append(deed)
        return None


class TestSomeBooks(unittest.TestCase):
    NAMES = ["a", "b", "c", "d", "e", "Z"]

    def some_deed(self, rng, plain):
        word = rng.choice(["put"] * 4 + ["remove", "rename", "rename", "undo", "undo", "redo"])
        if word in ("undo", "redo"):
            return (word,)
        if word == "remove":
            return (word, rng.choice(self.NAMES))
        if word == "rename":
            return (word, rng.choice(self.NAMES), rng.choice(self.NAMES))
        there = [name for name, _ in plain.now] + self.NAMES[:2]
        formula = some_formula(rng, len(there), rng.randint(0, 2), most=2)
        self.assertLess(sum(numbers_in(formula)), 1000)
        return (word, rng.choice(self.NAMES), plain.mapped(formula, lambda cell: there[cell]))

    def compare(self, book, plain):
        self.assertEqual(book.names(), [name for name, _ in plain.now])
        self.assertEqual([book.formula(name) for name in book.names()], [formula for _, formula in plain.now])
        self.assertEqual(book.what_if([]), plain.amounts())
        self.assertEqual((book.can_undo, book.can_redo), (bool(plain.past), bool(plain.future)))
        self.assertEqual(book.journal(), plain.entries)

    def test_books_by_the_words_of_the_points(self):
        rng = random.Random(55)
        raised = {}
        for _ in range(40):
            book, plain = Book(), PlainBook()
            for _ in range(40):
                deed = self.some_deed(rng, plain)
                known = {name: pair for name, *pair in plain.amounts()}
                error = plain.do(deed)
                raised[error] = raised.get(error, 0) + 1
                with self.subTest(journal=plain.entries, deed=deed):
                    if error is None:
                        expected = [name for name, *pair in plain.amounts() if known.get(name) != pair]
                        self.assertEqual(getattr(book, deed[0])(*deed[1:]), expected)
                    else:
                        with self.assertRaises(error):
                            getattr(book, deed[0])(*deed[1:])
                    self.compare(book, plain)
            self.compare(replay(book.journal()), plain)
        self.assertEqual(set(raised), {N, BadName, UnknownName, InUse, NothingToUndo, NothingToRedo})
        self.assertTrue(all(many > 10 for many in raised.values()), raised)

    def test_several_deeds_together_by_the_words_of_the_points(self):
        rng = random.Random(56)
        done = [0, 0]
        for _ in range(60):
            book, plain = Book(), PlainBook()
            for _ in range(12):
                trial = copy.deepcopy(plain)
                deeds, error = [], None
                for _ in range(rng.randint(0, 5)):
                    deeds.append(self.some_deed(rng, trial))
                    error = error or trial.do(deeds[-1])
                done[error is None] += 1
                with self.subTest(journal=plain.entries, deeds=deeds):
                    if error is None:
                        known = {name: pair for name, *pair in plain.amounts()}
                        self.assertEqual(book.what_if(deeds), trial.amounts())
                        self.compare(book, plain)
                        expected = [name for name, *pair in trial.amounts() if known.get(name) != pair]
                        self.assertEqual(book.do_all(deeds), expected)
                        plain = trial
                    else:
                        for method in (book.what_if, book.do_all):
                            with self.assertRaises(SheetError) as caught:
                                method(deeds)
                            self.assertIs(type(caught.exception), error)
                    self.compare(book, plain)
        self.assertGreater(min(done), 50)


if __name__ == "__main__":
    unittest.main()
