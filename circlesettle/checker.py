"""Claims about sheets: their papers, and the check of them."""

from circlesettle.amounts import at_most
from circlesettle.flat import flat_form
from circlesettle.greatest import greatest_paper, greatest_solution, is_greatest_paper
from circlesettle.least import is_least_paper, least_paper, least_solution

# How many lists each tuple of a paper for the least, or for the greatest solution has.
LISTS_OF_LEAST = 5
LISTS_OF_GREATEST = 4


def is_of_least(claim):
    """True if the claim is one about the least solution, False if it is one about the greatest one."""
    return claim[0] in ("least", "at_least")


def single_claims(claim):
    """The list of the claims about one solution that make up the claim."""
    if claim[0] == "only":
        return [("least", claim[1]), ("greatest", claim[1])]
    return [claim]


def holds(claim, x):
    """True if the claim about one solution is true where this solution is x, otherwise False."""
    if claim[0] == "at_least":
        return at_most(claim[2], x[claim[1]])
    if claim[0] == "at_most":
        return at_most(x[claim[1]], claim[2])
    return x == claim[1]


def check(sheet, claim, paper):
    """True if the paper is one for the claim about the sheet, otherwise False."""
    if claim[0] != "only":
        return is_paper(sheet, claim, paper)
    if not isinstance(paper, tuple) or len(paper) != 2:
        return False
    return all([is_paper(sheet, single, each) for single, each in zip(single_claims(claim), paper)])


def is_paper(sheet, claim, paper):
    """True if the paper is one for the claim about one solution, otherwise False."""
    flat = flat_form(sheet)
    if is_of_least(claim):
        is_right = has_form(paper, LISTS_OF_LEAST) and is_least_paper(flat, paper)
    else:
        is_right = has_form(paper, LISTS_OF_GREATEST) and is_greatest_paper(flat, paper)
    return is_right and holds(claim, paper[-1][1][:len(sheet)])


def has_form(paper, count):
    """True if the paper is a list of tuples of so many lists, otherwise False."""
    # A paper that is made for another kind of claim has tuples of another length, or is a tuple itself.
    return isinstance(paper, list) and all([len(stage) == count for stage in paper])


def paper_of(sheet, claim):
    """A paper for the claim about the sheet, or None if the claim is not true."""
    if not is_true(sheet, claim):
        return None
    flat = flat_form(sheet)
    papers = [least_paper(flat) if is_of_least(single) else greatest_paper(flat) for single in single_claims(claim)]
    return tuple(papers) if claim[0] == "only" else papers[0]


def is_true(sheet, claim):
    """True if the claim about the sheet is true, otherwise False."""
    for single in single_claims(claim):
        x = least_solution(sheet) if is_of_least(single) else greatest_solution(sheet)
        if not holds(single, x):
            return False
    return True
