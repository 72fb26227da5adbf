"""Slow and plain ways to the same answers, by the words of the points alone, and small sheets made by a seed."""

import itertools


def flat_value_at(formula, x):
    word = formula[0]
    if word == "amount":
        return formula[1]
    if word == "when":
        reached = x[formula[1]] is None or x[formula[1]] >= formula[2]
        return x[formula[3]] if reached else 0
    values = [None if x[j] is None else max(x[j] + c, 0) for j, c in formula[1]]
    numbers = [value for value in values if value is not None]
    if word == "least":
        return min(numbers) if numbers else None
    return None if None in values else max(numbers)


def flat_round(flat, x):
    return [flat_value_at(formula, x) for formula in flat]


def sheet_value_at(formula, x):
    word = formula[0]
    if word == "amount":
        return formula[1]
    if word == "cell":
        return x[formula[1]]
    if word == "more":
        value = sheet_value_at(formula[1], x)
        return None if value is None else max(value + formula[2], 0)
    if word == "when":
        reached = x[formula[1]] is None or x[formula[1]] >= formula[2]
        return sheet_value_at(formula[3], x) if reached else 0
    values = [sheet_value_at(inner, x) for inner in formula[1]]
    numbers = [value for value in values if value is not None]
    if word == "least":
        return min(numbers) if numbers else None
    return None if None in values else max(numbers)


def settle_up(one_round, count, cut):
    """Rounds from below; what is greater than the cut is endless, as no number of the least solution is."""
    x = [0] * count
    while True:
        after = [None if value is None or value > cut else value for value in one_round(x)]
        if after == x:
            return x
        x = after


def settle_down(one_round, count):
    x = [None] * count
    while True:
        after = one_round(x)
        if after == x:
            return x
        x = after


def least_of_flat(flat):
    numbers = [formula[1] for formula in flat if formula[0] == "amount" and formula[1] is not None]
    shifts = [c for formula in flat if formula[0] in ("least", "greatest") for _, c in formula[1]]
    cut = max(numbers, default=0) + len(flat) * max([0, *shifts])
    return settle_up(lambda x: flat_round(flat, x), len(flat), cut)


def greatest_of_flat(flat):
    return settle_down(lambda x: flat_round(flat, x), len(flat))


def numbers_in(formula):
    """All numbers of a formula: a way from below to a number adds no more than all of them in each round of cells."""
    word = formula[0]
    if word in ("amount", "cell"):
        return [formula[1] or 0] if word == "amount" else []
    if word == "more":
        return [abs(formula[2])] + numbers_in(formula[1])
    if word == "when":
        return numbers_in(formula[3])
    return [number for inner in formula[1] for number in numbers_in(inner)]


def least_of_sheet(sheet):
    cut = sum(sum(numbers_in(formula)) for formula in sheet) * (len(sheet) + 1)
    return settle_up(lambda x: [sheet_value_at(formula, x) for formula in sheet], len(sheet), cut)


def greatest_of_sheet(sheet):
    return settle_down(lambda x: [sheet_value_at(formula, x) for formula in sheet], len(sheet))


def open_sheet(flat, places):
    out = []
    for cell, formula in enumerate(flat):
        if formula[0] == "when":
            formula = ("greatest", [(formula[3], 0)]) if cell in places else ("amount", 0)
        out.append(formula)
    return out


def stages_up(flat):
    places = []
    stages = []
    while True:
        x = least_of_flat(open_sheet(flat, places))
        stages.append((places, x))
        following = [cell for cell, formula in enumerate(flat) if formula[0] == "when"
                     and (x[formula[1]] is None or x[formula[1]] >= formula[2])]
        if following == places:
            return stages
        places = following


def stages_down(flat):
    places = [cell for cell, formula in enumerate(flat) if formula[0] == "when"]
    stages = []
    while True:
        x = greatest_of_flat(open_sheet(flat, places))
        stages.append((places, x))
        following = [cell for cell in places if x[flat[cell][1]] is None or x[flat[cell][1]] >= flat[cell][2]]
        if following == places:
            return stages
        places = following


def held_by_rounds(plain):
    ranks = [0 if formula[0] == "amount" and formula[1] is not None else None for formula in plain]
    number = 0
    while True:
        number += 1
        fresh = []
        for cell, formula in enumerate(plain):
            if ranks[cell] is None and formula[0] != "amount":
                there = [ranks[j] is not None for j, _ in formula[1]]
                if any(there) if formula[0] == "least" else all(there):
                    fresh.append(cell)
        if not fresh:
            return ranks
        for cell in fresh:
            ranks[cell] = number


def tight_by_rounds(plain, x):
    ranks = [0 if formula[0] == "amount" and formula[1] is not None else None for formula in plain]
    number = 0
    while True:
        number += 1
        fresh = []
        for cell, formula in enumerate(plain):
            if ranks[cell] is not None or x[cell] is None:
                continue
            arcs = [(j, c) for j, c in formula[1] if x[j] is not None]
            if formula[0] == "least":
                due = any((x[j] + c < 0 and x[cell] == 0) or (x[j] + c == x[cell] and ranks[j] is not None)
                          for j, c in arcs)
            else:
                due = all(ranks[j] is not None for j, c in arcs if x[j] + c == x[cell])
            if due:
                fresh.append(cell)
        if not fresh:
            return ranks
        for cell in fresh:
            ranks[cell] = number


def all_choices(plain, word):
    options = [range(len(formula[1])) if formula[0] == word else [None] for formula in plain]
    return [list(choices) for choices in itertools.product(*options)]


def gains_from(plain, way, choices):
    """True if the way, no cell of which stands in it twice, can be made a gaining one by going on."""
    cell = way[-1]
    formula = plain[cell]
    if formula[0] == "amount":
        return formula[1] is None
    arcs = [formula[1][choices[cell]]] if formula[0] == "least" else formula[1]
    for target, _ in arcs:
        if target not in way:
            if gains_from(plain, way + [target], choices):
                return True
        elif gain_of(plain, way[way.index(target):] + [target], choices) >= 1:
            return True
    return False


def gain_of(plain, way, choices):
    total = 0
    for cell, target in zip(way, way[1:]):
        formula = plain[cell]
        arcs = [formula[1][choices[cell]]] if formula[0] == "least" else formula[1]
        total += max(c for j, c in arcs if j == target)
    return total


def is_gaining_way(plain, choices, way):
    """Point 27, word for word."""
    if not way or any(cell not in range(len(plain)) for cell in way):
        return False
    for cell, target in zip(way, way[1:]):
        formula = plain[cell]
        if formula[0] == "amount":
            return False
        arcs = [formula[1][choices[cell]]] if formula[0] == "least" else formula[1]
        if target not in [j for j, _ in arcs]:
            return False
    if plain[way[-1]] == ("amount", None):
        return True
    earlier = [at for at, cell in enumerate(way[:-1]) if cell == way[-1]]
    return bool(earlier) and gain_of(plain, way[earlier[-1]:], choices) >= 1


def some_flat(rng, count, *, most=3, whens=True, numbers=4):
    """A flat sheet with small shifts and amounts."""
    words = ["amount", "least", "least", "greatest", "greatest"] + (["when", "when"] if whens else [])
    flat = []
    for _ in range(count):
        word = rng.choice(words)
        if word == "amount":
            flat.append((word, rng.choice([None, *range(numbers)])))
        elif word == "when":
            flat.append((word, rng.randrange(count), rng.randint(1, numbers + 1), rng.randrange(count)))
        else:
            arcs = [(rng.randrange(count), rng.randint(-most, most)) for _ in range(rng.randint(1, 3))]
            flat.append((word, arcs))
    return flat


def some_formula(rng, count, depth, *, most=3):
    """A formula for a sheet of so many cells, in which no part stands within more than `depth` others."""
    word = rng.choice(["amount", "cell", "cell"] + ["more", "least", "greatest", "when"] * (2 if depth else 0))
    if word == "amount":
        return (word, rng.choice([None, 0, 1, 2, 3, 4, 5]))
    if word == "cell":
        return (word, rng.randrange(count))
    if word == "more":
        return (word, some_formula(rng, count, depth - 1, most=most), rng.randint(-most, most))
    if word == "when":
        return (word, rng.randrange(count), rng.randint(1, 5), some_formula(rng, count, depth - 1, most=most))
    return (word, [some_formula(rng, count, depth - 1, most=most) for _ in range(rng.randint(1, 3))])


def some_sheet(rng, count, depth, *, most=3):
    return [some_formula(rng, count, depth, most=most) for _ in range(count)]


def cells_beside(formula):
    """The cells that stand in a flat formula, as a set."""
    if formula[0] == "amount":
        return set()
    if formula[0] == "when":
        return {formula[1], formula[3]}
    return {j for j, _ in formula[1]}


def hanging_pairs(flat):
    """All tuples of a cell and one on which it hangs, made by adding ways to ways until nothing comes to them."""
    pairs = {(cell, other) for cell, formula in enumerate(flat) for other in cells_beside(formula)}
    while True:
        more = {(a, d) for a, b in pairs for c, d in pairs if b == c} - pairs
        if not more:
            return pairs
        pairs |= more


def knots_by_words(flat):
    """Points 35 and 38, word for word: the knots in their order, and their depths."""
    pairs = hanging_pairs(flat)
    cells = range(len(flat))
    left = sorted({tuple(sorted({a} | {b for b in cells if (a, b) in pairs and (b, a) in pairs})) for a in cells})
    told = []
    depths = []
    while left:
        there = {cell for knot in told for cell in knot}
        due = [knot for knot in left if all(cells_beside(flat[cell]) <= there | set(knot) for cell in knot)]
        knot = min(due, key=lambda each: each[0])
        others = {other for cell in knot for other in cells_beside(flat[cell])} - set(knot)
        depths.append(max((1 + depth for depth, each in zip(depths, told) if others & set(each)), default=0))
        told.append(list(knot))
        left.remove(knot)
    return told, depths


def term_at(term, x):
    """The value of a term at amounts, by the words of point 39."""
    limit, arcs = term
    numbers = [number for number in [limit] if number is not None]
    numbers += [x[j] + c for j, c in arcs if x[j] is not None]
    return min(numbers) if numbers else None


def form_at(form, x):
    values = [0] + [term_at(term, x) for term in form]
    return None if None in values else max(values)


def is_form_by_words(form):
    """Point 41, word for word, for terms whose values are compared at amounts up to what their numbers tell."""
    for limit, arcs in form:
        cells = [j for j, _ in arcs]
        if limit == 0 or cells != sorted(cells) or len(set(cells)) < len(cells):
            return False
        if limit is not None and any(c >= limit for _, c in arcs):
            return False
    if any(is_no_more_by_words(a, b) for at, a in enumerate(form) for place, b in enumerate(form) if at != place):
        return False
    return [arcs for _, arcs in form] == sorted(arcs for _, arcs in form)


def is_no_more_by_words(term, other):
    """The second sentence of point 40."""
    limit, arcs = term
    if other[0] is not None and (limit is None or limit > other[0]):
        return False
    return all(any(i == j and c <= d for i, c in arcs) or (limit is not None and limit <= d) for j, d in other[1])


def some_plain_formula(rng, count, parts, *, most=3):
    """A formula without "when" of at most so many parts, and the number of its parts."""
    word = rng.choice(["amount", "cell", "cell"] + ["more", "least", "greatest"] * (3 if parts > 1 else 0))
    if word == "amount":
        return (word, rng.choice([None, 0, 1, 2, 3, 4])), 1
    if word == "cell":
        return (word, rng.randrange(count)), 1
    if word == "more":
        formula, used = some_plain_formula(rng, count, parts - 1, most=most)
        return (word, formula, rng.randint(-most, most)), used + 1
    formulas = []
    left = parts - 1
    for _ in range(rng.randint(1, 3)):
        if left > 0:
            formula, used = some_plain_formula(rng, count, left, most=most)
            formulas.append(formula)
            left -= used
    return (word, formulas), parts - left
