"""Questions about sums of contents, and their answers ([5.1] to [5.4])."""

from kerbside.errors import BadPaper, Full, Missing, NotAllowed
from kerbside.papers import MAX_CONDITIONS, are_ratios, check_condition, check_paper, is_history
from kerbside.ratios import ONE, ZERO, compare, is_ratio, minus, negated, over, plus, sign_of
from kerbside.rows import add_rows, product, scale_form, scale_row, value_at
from kerbside.solve import greatest
from kerbside.yards import unknown, width_of, yard_conditions

BELOW = "below"
ABOVE = "above"
# The sides of the bound to which each relation limits a sum, and those on which all histories are if it is impossible.
LIMITS = {"<=": ("below",), ">=": ("above",), "=": ("below", "above")}
OUTSIDES = {"<=": ("above",), ">=": ("below",), "=": ("above", "below")}


def form_of(yard, terms):
    """Returns the form of a sum, a list of terms."""
    row = [ZERO] * width_of(yard)
    for lot, household, factor in terms:
        for index in unknowns_of(yard, lot, household):
            row[index] = plus(row[index], factor)
    return tuple(row), ZERO


def unknowns_of(yard, lot, household):
    """Returns the list of the unknowns that a term names: one, or for None those of all households."""
    if household is not None:
        return [unknown(yard, lot, household)]
    return [unknown(yard, lot, each) for each in range(yard[0])]


def system_of(yard, evidence):
    """Returns the system of the yard with the evidence, a list of conditions."""
    width = width_of(yard)
    if width == 0:
        raise Missing("the yard has no lots")
    for condition in evidence:
        check_condition(condition, width)
    conditions = (*yard_conditions(yard), *evidence)
    if len(conditions) > MAX_CONDITIONS:
        raise Full("yard and evidence have more than 40 conditions")
    return width, conditions


def asked(yard, evidence, question):
    """Returns the system, the form of the sum, the relation and the bound."""
    system = system_of(yard, evidence)
    terms, relation, bound = question
    form = form_of(yard, terms)
    if relation not in LIMITS:
        raise NotAllowed("the relation of a question is <=, >= or =")
    if not is_ratio(bound):
        raise NotAllowed("the bound of a question is a ratio")
    return system, form, relation, bound


def claims_of(form, bound):
    """Returns for each side a form and its bound: the sum is on this side if the form is less than its bound."""
    return {BELOW: (form, bound), ABOVE: (scale_form(negated(ONE), form), negated(bound))}


def height_of(paper, bound):
    """Returns -1, 0 or 1, as the greatest value is less than the bound, equal to it, or greater (or there is none)."""
    if paper[0] != "point":
        return 1
    return compare(paper[1], bound)


def answer_of(yard, evidence, question):
    """Returns a right answer to the question."""
    system, form, relation, bound = asked(yard, evidence, question)
    claims = claims_of(form, bound)
    papers = {side: greatest(system, claims[side][0]) for side in claims}
    if papers[BELOW][0] == "never":
        return "never", papers[BELOW]
    heights = {side: height_of(papers[side], claims[side][1]) for side in claims}
    if all(heights[side] <= 0 for side in LIMITS[relation]):
        return "certain", tuple([papers[side] for side in LIMITS[relation]])
    for side in OUTSIDES[relation]:
        if heights[side] < 0:
            return "impossible", side, papers[side]
    # The greatest values of the claim of a side belong to the histories on the other one.
    high = far_history(papers[BELOW], claims[BELOW])
    low = far_history(papers[ABOVE], claims[ABOVE])
    return open_answer(form, relation, bound, low, high)


def far_history(paper, claim):
    """Returns a history with the greatest value, or with one above the bound of the claim if there is no greatest."""
    if paper[0] == "point":
        return paper[2]
    form, bound = claim
    _, history, ray = paper
    gap = minus(bound, value_at(form, history))
    steps = plus(over(gap, product(form[0], ray)), ONE)
    if sign_of(steps) <= 0:
        return history
    return add_rows(history, scale_row(steps, ray))


def open_answer(form, relation, bound, low, high):
    """Returns the answer to an open question, by a history at or below the bound and one at or above it."""
    if relation == "<=":
        return "open", low, high
    if relation == ">=":
        return "open", high, low
    other = low if value_at(form, high) == bound else high
    return "open", history_between(form, bound, low, high), other


def history_between(form, bound, low, high):
    """Returns the mixture of two histories at which the form has the value of the bound."""
    least = value_at(form, low)
    share = over(minus(bound, least), minus(value_at(form, high), least))
    return add_rows(scale_row(minus(ONE, share), low), scale_row(share, high))


def check_answer(yard, evidence, question, answer):
    """Raises BadPaper if the answer to the question is not right."""
    system, form, relation, bound = asked(yard, evidence, question)
    word = answer[0] if answer else ""
    parts = answer[1:]
    if word == "never" and len(parts) == 1:
        right = shows(system, form, parts[0], "never")
    elif word == "certain" and len(parts) == 1:
        right = is_certain(system, claims_of(form, bound), LIMITS[relation], parts[0])
    elif word == "impossible" and len(parts) == 2:
        right = parts[0] in OUTSIDES[relation] and is_outside(system, claims_of(form, bound)[parts[0]], parts[1])
    elif word == "open" and len(parts) == 2:
        right = is_open(system, form, relation, bound, parts)
    else:
        right = False
    if not right:
        raise BadPaper("the answer is not right")


def shows(system, form, paper, kind):
    """Tells whether something is a paper of the kind for the system and the form."""
    if paper[:1] != (kind,):
        return False
    try:
        check_paper(system, form, paper)
    except BadPaper:
        return False
    return True


def is_certain(system, claims, sides, papers):
    """Tells whether the papers show, side by side, that the sum is on each of these sides or at the bound."""
    if len(papers) != len(sides):
        return False
    for side, paper in zip(sides, papers):
        form, bound = claims[side]
        if not shows(system, form, paper, "point") or height_of(paper, bound) > 0:
            return False
    return True


def is_outside(system, claim, paper):
    """Tells whether the paper shows that the form of the claim is always less than its bound."""
    form, bound = claim
    return shows(system, form, paper, "point") and height_of(paper, bound) < 0


def is_open(system, form, relation, bound, histories):
    """Tells whether these are a history that keeps the question and one that does not."""
    for history in histories:
        if not are_ratios(history, system[0]) or not is_history(system, history):
            return False
    keeping, other = histories
    return is_kept(form, relation, bound, keeping) and not is_kept(form, relation, bound, other)


def is_kept(form, relation, bound, history):
    """Tells whether the history keeps the question."""
    order = compare(value_at(form, history), bound)
    if relation == "=":
        return order == 0
    return order == 0 or (order < 0) == (relation == "<=")
