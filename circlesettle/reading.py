"""Reading a sheet from its written form."""

from circlesettle.errors import BadText
from circlesettle.sheets import MOST_FORMULAS, check_sheet

DIGITS = "0123456789"
MOST_DIGITS = 3

# What must follow each word of a formula, the last one first: the next need is taken from the end.
AFTER = {
    "amount": ("amount",),
    "cell": ("number",),
    "more": ("formula", "shift"),
    "least": ("count",),
    "greatest": ("count",),
    "when": ("formula", "number", "number"),
}


def lines_of(text):
    """Yield the lines of the text, in order, without their newlines."""
    start = 0
    while start < len(text):
        end = text.find("\n", start)
        if end < 0:
            end = len(text)
        yield text[start:end]
        start = end + 1


def words_of(line):
    """The list of the tuples (column, word) of the words of the line, in order, also of empty words."""
    words = []
    column = 1
    for word in line.split(" "):
        words.append((column, word))
        column += len(word) + 1
    return words


def read_whole(word):
    """The whole number whose written form the word is, or None if it is none."""
    digits = word[1:] if word.startswith("-") else word
    # Python's own int takes signs, spaces, underscores and digits of other scripts, which are wrong here.
    if not 1 <= len(digits) <= MOST_DIGITS or not all([digit in DIGITS for digit in digits]):
        return None
    if digits[0] == "0" and word != "0":
        return None
    return int(word)


def needs_after(need, word):
    """What must follow the word, the last one first, where this was needed; None if the word is wrong there."""
    if need == "formula":
        return AFTER.get(word)
    if need == "amount" and word == "endless":
        return ()
    number = read_whole(word)
    if number is None or (need != "shift" and number < 0):
        return None
    if need != "count":
        return ()
    return ("formula",) * number if 1 <= number <= MOST_FORMULAS else None


def wrong_column(line):
    """The column of the error of the line, or None if its words are all the words of a right line."""
    needs = ["formula"]
    for column, word in words_of(line):
        further = needs_after(needs.pop(), word) if needs else None
        if further is None:
            return column
        needs.extend(further)
    return len(line) + 1 if needs else None


def formula_of(line):
    """The formula whose words the right line has."""
    parts = []
    # From the last word to the first one: what a word needs stands then at the end of the list.
    for word in reversed(line.split(" ")):
        part = formula_from(word, parts) if word in AFTER else word
        parts.append(part)
    return parts[0]


def formula_from(word, parts):
    """The formula that the word begins; what belongs to it is taken from the end of the list."""
    number = read_whole(parts.pop())
    if word == "more":
        return ("more", parts.pop(), number)
    if word == "when":
        threshold = read_whole(parts.pop())
        return ("when", number, threshold, parts.pop())
    if word in ("least", "greatest"):
        return (word, [parts.pop() for _ in range(number)])
    # An amount is no whole number only if it is endless, which is None.
    return (word, number)


def read_sheet(text):
    """The sheet whose written form the text is."""
    sheet = []
    for number, line in enumerate(lines_of(text), start=1):
        column = wrong_column(line)
        if column is not None:
            raise BadText(number, column)
        sheet.append(formula_of(line))
    if text and not text.endswith("\n"):
        last = text[text.rfind("\n") + 1:]
        raise BadText(len(sheet), len(last) + 1)
    check_sheet(sheet)
    return sheet
