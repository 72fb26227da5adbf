"""Books: cells with names, deeds that can be undone and done again, and the journal of a book."""

from circlesettle.errors import (
    BadEntry, BadName, BadSize, InUse, NothingToRedo, NothingToUndo, SheetError, UnknownName,
)
from circlesettle.flat import flat_form
from circlesettle.greatest import flat_greatest
from circlesettle.least import flat_least
from circlesettle.sheets import MOST_CELLS, cells_in, check_formula, turned, turned_sheet

LETTERS = "abcdefghijklmnopqrstuvwxyz"
FIGURES = "0123456789"
LONGEST_NAME = 12


def is_name(value):
    """True if the value is a name, otherwise False."""
    if not isinstance(value, str) or not 1 <= len(value) <= LONGEST_NAME:
        return False
    return value[0] in LETTERS and all([sign in LETTERS + FIGURES for sign in value])


def is_there(name, formulas):
    """True if the value is one of the names of the formulas, otherwise False."""
    return is_name(name) and name in formulas


def users_of(name, formulas):
    """The list of the names whose formulas use this one, in their order."""
    return [other for other, formula in formulas.items() if name in cells_in(formula)]


def after_put(formulas, name, formula):
    """The formulas by their names with the formula put under the name."""
    if not is_name(name):
        raise BadName()
    check_formula(formula, is_name)
    made = {other: formulas[other] for other in formulas}
    # Put in before the names are looked at: the formula may use its own name.
    made[name] = turned(formula, {})
    if not all([used in made for used in cells_in(formula)]):
        raise UnknownName()
    if len(made) > MOST_CELLS:
        raise BadSize()
    return made


def after_remove(formulas, name):
    """The formulas by their names without the name."""
    if not is_there(name, formulas):
        raise UnknownName()
    if users_of(name, formulas) not in ([], [name]):
        raise InUse()
    return {other: formulas[other] for other in formulas if other != name}


def after_rename(formulas, name, other):
    """The formulas by their names with the other name in the place of the name."""
    if not is_there(name, formulas):
        raise UnknownName()
    if not is_name(other) or (other != name and other in formulas):
        raise BadName()
    names = {name: other}
    return {names.get(each, each): turned(formula, names) for each, formula in formulas.items()}


def after_deed(formulas, deed):
    """The formulas by their names behind the deed, which is neither to undo nor to redo."""
    if deed[0] == "put":
        return after_put(formulas, deed[1], deed[2])
    if deed[0] == "remove":
        return after_remove(formulas, deed[1])
    return after_rename(formulas, deed[1], deed[2])


def copied_deed(deed):
    """A new deed like this one."""
    return ("put", deed[1], turned(deed[2], {})) if deed[0] == "put" else deed


class Page:
    """The formulas of a book at one time, by their names, in their order. They are never changed."""

    def __init__(self, formulas):
        self.formulas = formulas
        self.known = None

    def sheet(self):
        """The list of the formulas with places in the place of names."""
        places = {name: place for place, name in enumerate(self.formulas)}
        return turned_sheet(list(self.formulas.values()), places)

    def amounts(self):
        """A dict of tuples (least, greatest) of the amounts of all names, in their order."""
        # Solved when first asked for, and then kept: what lies between two deeds is often not asked for.
        if self.known is None:
            flat = flat_form(self.sheet())
            pairs = list(zip(flat_least(flat), flat_greatest(flat)))
            # The cells of the book come first in the flat form.
            self.known = {name: pair for name, pair in zip(self.formulas, pairs)}
        return self.known


def changed(before, after):
    """The list of the names of a page that were not there on the one before, or had other amounts there."""
    known = before.amounts()
    return [name for name, amounts in after.amounts().items() if name not in known or known[name] != amounts]


class Book:
    """Cells with names, in an order, and the deeds that have made them."""

    def __init__(self):
        self._page = Page({})
        self._past = []
        self._future = []
        self._deeds = []

    def __len__(self):
        """The number of the names."""
        return len(self._page.formulas)

    def __contains__(self, name):
        """True if the name is there, otherwise False."""
        return is_there(name, self._page.formulas)

    def put(self, name, formula):
        """Put the formula under the name; return what has changed."""
        return self.do_all([("put", name, formula)])

    def remove(self, name):
        """Remove the name; return what has changed."""
        return self.do_all([("remove", name)])

    def rename(self, name, other):
        """Give the name's cell the other name; return what has changed."""
        return self.do_all([("rename", name, other)])

    def undo(self):
        """Undo the last deed that is in force; return what has changed."""
        return self.do_all([("undo",)])

    def redo(self):
        """Bring the deed that was undone last into force again; return what has changed."""
        return self.do_all([("redo",)])

    def do_all(self, deeds):
        """Do the deeds together, all of them or none; return what has changed."""
        before = self._page
        self._become(self._behind(deeds))
        return changed(before, self._page)

    def what_if(self, deeds):
        """The list of the tuples (name, least, greatest) of all names, as they would be behind the deeds."""
        amounts = self._behind(deeds)._page.amounts()
        return [(name, least, greatest) for name, (least, greatest) in amounts.items()]

    def names(self):
        """The list of the names, in their order."""
        return list(self._page.formulas)

    def formula(self, name):
        """The formula of the name."""
        self._look_up(name)
        return turned(self._page.formulas[name], {})

    def least(self, name):
        """The least amount of the name."""
        self._look_up(name)
        return self._page.amounts()[name][0]

    def greatest(self, name):
        """The greatest amount of the name."""
        self._look_up(name)
        return self._page.amounts()[name][1]

    def is_settled(self, name):
        """True if the least and the greatest amount of the name are the same, otherwise False."""
        return self.least(name) == self.greatest(name)

    def users(self, name):
        """The list of the names whose formulas use this one, in their order."""
        self._look_up(name)
        return users_of(name, self._page.formulas)

    def sheet(self):
        """The sheet of the book, an empty list if it has no cells."""
        return self._page.sheet()

    @property
    def can_undo(self):
        """True if some deed is in force that can be undone, otherwise False."""
        return len(self._past) > 0

    @property
    def can_redo(self):
        """True if some deed was undone that can be done again, otherwise False."""
        return len(self._future) > 0

    def journal(self):
        """The list of the deeds that raised no error, in order."""
        return [copied_deed(deed) for deed in self._deeds]

    def _look_up(self, name):
        """Raise an error if the name is not there."""
        if not is_there(name, self._page.formulas):
            raise UnknownName()

    def _behind(self, deeds):
        """A new book like this one in which the deeds have been done."""
        book = Book()
        book._become(self)
        for deed in deeds:
            book._do(deed)
        return book

    def _become(self, other):
        """Make this book like the other one."""
        self._page = other._page
        self._past = list(other._past)
        self._future = list(other._future)
        self._deeds = list(other._deeds)

    def _do(self, deed):
        """Do one deed, told as an entry of a journal."""
        if deed[0] == "undo":
            self._step_back()
        elif deed[0] == "redo":
            self._step_forth()
        else:
            made = Page(after_deed(self._page.formulas, deed))
            self._past.append(self._page)
            self._future = []
            self._page = made
        self._deeds.append(copied_deed(deed))

    def _step_back(self):
        """Undo the last deed that is in force."""
        if not self._past:
            raise NothingToUndo()
        self._future.append(self._page)
        self._page = self._past.pop()

    def _step_forth(self):
        """Bring the deed that was undone last into force again."""
        if not self._future:
            raise NothingToRedo()
        self._past.append(self._page)
        self._page = self._future.pop()


def replay(journal):
    """The book that replaying the journal makes."""
    book = Book()
    for place, entry in enumerate(journal):
        try:
            book._do(entry)
        except SheetError:
            raise BadEntry(place) from None
    return book
