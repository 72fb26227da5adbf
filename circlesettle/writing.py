"""The written form of formulas and sheets."""


def write_amount(amount):
    """The written form of an amount."""
    return "endless" if amount is None else str(amount)


def write_formula(formula):
    """The words of a formula, with one space between them."""
    word = formula[0]
    if word == "amount":
        return f"amount {write_amount(formula[1])}"
    if word == "cell":
        return f"cell {formula[1]}"
    if word == "more":
        return f"more {formula[2]} {write_formula(formula[1])}"
    if word == "when":
        return f"when {formula[1]} {formula[2]} {write_formula(formula[3])}"
    return " ".join([word, str(len(formula[1]))] + [write_formula(inner) for inner in formula[1]])


def write_sheet(sheet):
    """The written form of the sheet."""
    return "".join([write_formula(formula) + "\n" for formula in sheet])
