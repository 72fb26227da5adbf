"""Shortest forms of formulas without "when": lists of terms with the same values."""

from circlesettle.amounts import at_most, greatest_of, least_of


def term_value(term, x):
    """The value of the term at the amounts x, a whole number or None."""
    limit, arcs = term
    return least_of([limit] + [moved(x[cell], shift) for cell, shift in arcs])


def moved(number, shift):
    """The number and the shift together, without the floor; None for None."""
    return None if number is None else number + shift


def form_value(form, x):
    """The value of the list of terms at the amounts x."""
    return greatest_of([0] + [term_value(term, x) for term in form])


def is_no_more(term, other):
    """True if the term is no more than the other one, otherwise False."""
    limit, arcs = term
    if not at_most(limit, other[0]):
        return False
    shifts = {cell: shift for cell, shift in arcs}
    for cell, most in other[1]:
        has_arc = cell in shifts and shifts[cell] <= most
        if not has_arc and (limit is None or limit > most):
            return False
    return True


def form_of(formula):
    """The form of the formula."""
    word = formula[0]
    if word == "amount":
        return [] if formula[1] == 0 else [(formula[1], [])]
    if word == "cell":
        return [(None, [(formula[1], 0)])]
    if word == "more":
        return shifted_form(form_of(formula[1]), formula[2])
    forms = [form_of(inner) for inner in formula[1]]
    if word == "greatest":
        return made_short([term for form in forms for term in form])
    return least_form(forms)


def shifted_form(form, shift):
    """The form of the formula with this form and the shift."""
    terms = [(moved(limit, shift), [(cell, number + shift) for cell, number in arcs]) for limit, arcs in form]
    # The 0 of the form comes to the shift itself; it falls out with the others where this is not above 0.
    terms.append((shift, []))
    return made_short([term for term in terms if term[0] is None or term[0] > 0])


def least_form(forms):
    """The form of "least" over formulas with these forms."""
    form = [(None, [])]
    for other in forms:
        # Made short after each formula: what a longer choice of terms would have is no more, either.
        form = made_short([met(first, second) for first in form for second in other])
    return form


def met(first, second):
    """The term whose value is the least one of the values of the two terms."""
    limit = least_of([first[0], second[0]])
    shifts = {cell: shift for cell, shift in first[1]}
    for cell, shift in second[1]:
        shifts[cell] = min(shift, shifts.get(cell, shift))
    return (limit, [(cell, shifts[cell]) for cell in sorted(shifts) if is_below(shifts[cell], limit)])


def is_below(shift, limit):
    """True if an arc with this number can make the value of a term with this limit less, otherwise False."""
    return limit is None or shift < limit


def made_short(terms):
    """The form with the values of the list of terms, whose limits are not 0 and whose arcs all count."""
    kept = []
    for term in terms:
        if not any([is_no_more(term, other) for other in kept]):
            kept = [other for other in kept if not is_no_more(other, term)] + [term]
    return sorted(kept, key=lambda each: each[1])


def is_form(form):
    """True if the list of terms is a form, otherwise False."""
    for limit, arcs in form:
        cells = [cell for cell, _ in arcs]
        if limit == 0 or cells != sorted(set(cells)):
            return False
        if not all([is_below(shift, limit) for _, shift in arcs]):
            return False
    # Short and in order, if making it so changes nothing.
    return made_short(form) == form


def same_formula(first, second):
    """True if the two formulas have the same values at all amounts, otherwise False."""
    return form_of(first) == form_of(second)


def telling(first, second, *, count):
    """A list of `count` amounts at which the two formulas have different values, or None if there are none."""
    forms = (form_of(first), form_of(second))
    for form, other in (forms, forms[::-1]):
        for term in form:
            if not any([is_no_more(term, each) for each in other]):
                return amounts_above(term, other, count)
    return None


def amounts_above(term, form, count):
    """A list of `count` amounts at which the term, no more than none of the form, has a greater value than the form."""
    limit, arcs = term
    # The arcs of the term are all brought to its limit, or to more than any number, and all other cells to 0:
    # what keeps a term of the form from being as great is then its own limit, or such a cell.
    value = limit if limit is not None else 1 + greatest_number(form + [term])
    x = [0] * count
    for cell, shift in arcs:
        x[cell] = value - shift
    return x


def greatest_number(form):
    """The greatest one of 0 and of the numbers of the terms."""
    numbers = [shift for _, arcs in form for _, shift in arcs]
    return max([0] + numbers + [limit for limit, _ in form if limit is not None])
