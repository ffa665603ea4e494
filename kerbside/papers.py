"""Systems of conditions, their histories, and the check of papers without a search ([2.1] to [2.6])."""

from kerbside.errors import BadPaper, NotAllowed
from kerbside.ratios import ZERO, compare, is_ratio, plus, sign_of, times
from kerbside.rows import add_rows, check_row, check_width, product, scale_row, value_at

MAX_CONDITIONS = 40
AT_MOST = "<="
JUST = "="


def check_system(system):
    """Raises NotAllowed if the argument is not a system."""
    width, conditions = system
    check_width(width)
    if len(conditions) > MAX_CONDITIONS:
        raise NotAllowed("a system has at most 40 conditions")
    for condition in conditions:
        check_condition(condition, width)


def check_condition(condition, width):
    """Raises NotAllowed if the argument is not a condition of the width."""
    row, relation, bound = condition
    if len(row) != width:
        raise NotAllowed("the row of a condition has the width of the system")
    check_row(row)
    if relation not in (AT_MOST, JUST):
        raise NotAllowed("the relation of a condition is <= or =")
    if not is_ratio(bound):
        raise NotAllowed("the bound of a condition is a ratio")


def keeps(condition, row):
    """Tells whether the row, of the width of the condition, keeps it."""
    coefficients, relation, bound = condition
    order = compare(product(coefficients, row), bound)
    return order == 0 or (order < 0 and relation == AT_MOST)


def none_below_zero(row):
    """Tells whether no ratio of the row is below 0."""
    return all(sign_of(pair) >= 0 for pair in row)


def is_history(system, row):
    """Tells whether a tuple of ratios is a history of the system."""
    width, conditions = system
    if len(row) != width or not none_below_zero(row):
        return False
    return all(keeps(condition, row) for condition in conditions)


def are_multipliers(system, multipliers):
    """Tells whether a tuple of ratios is multipliers of the system."""
    conditions = system[1]
    if len(multipliers) != len(conditions):
        return False
    return all(condition[1] == JUST or sign_of(factor) >= 0 for condition, factor in zip(conditions, multipliers))


def mixture(system, multipliers):
    """Returns the row and the bound that the multipliers mix from the conditions."""
    if not are_multipliers(system, multipliers):
        raise NotAllowed("these are not multipliers of the system")
    width, conditions = system
    mixed_row = (ZERO,) * width
    mixed_bound = ZERO
    for condition, factor in zip(conditions, multipliers):
        mixed_row = add_rows(mixed_row, scale_row(factor, condition[0]))
        mixed_bound = plus(mixed_bound, times(factor, condition[2]))
    return mixed_row, mixed_bound


def check_paper(system, form, paper):
    """Raises BadPaper if the paper is not one for the system and the form."""
    word = paper[0] if paper else ""
    parts = paper[1:]
    if word == "point" and len(parts) == 3:
        right = is_point(system, form, parts)
    elif word == "endless" and len(parts) == 2:
        right = is_endless(system, form, parts)
    elif word == "never" and len(parts) == 1:
        right = is_never(system, parts[0])
    else:
        right = False
    if not right:
        raise BadPaper("the paper does not show what it should show")


def are_ratios(parts, many):
    """Tells whether something is a tuple of so many ratios."""
    return isinstance(parts, tuple) and len(parts) == many and all(looks_like_ratio(part) for part in parts)


def looks_like_ratio(part):
    """Tells whether something is a ratio; in a paper with parts exchanged it may be anything."""
    if not isinstance(part, tuple) or len(part) != 2:
        return False
    return isinstance(part[0], int) and isinstance(part[1], int) and is_ratio(part)


def is_point(system, form, parts):
    """Tells whether the value, the history and the multipliers show the greatest value of the form."""
    value, history, multipliers = parts
    width, conditions = system
    if not are_ratios(history, width) or not are_ratios(multipliers, len(conditions)):
        return False
    if not is_history(system, history) or not are_multipliers(system, multipliers):
        return False
    row, bound = mixture(system, multipliers)
    if any(compare(mixed, wanted) < 0 for mixed, wanted in zip(row, form[0])):
        return False
    return value_at(form, history) == value and plus(bound, form[1]) == value


def is_endless(system, form, parts):
    """Tells whether the history and the ray show that the form has no greatest value."""
    history, ray = parts
    width, conditions = system
    if not are_ratios(history, width) or not are_ratios(ray, width):
        return False
    # A ray is what keeps the conditions with all their bounds put to 0.
    flat = (width, tuple((row, relation, ZERO) for row, relation, _ in conditions))
    return is_history(system, history) and is_history(flat, ray) and sign_of(product(form[0], ray)) > 0


def is_never(system, multipliers):
    """Tells whether the multipliers show that there is no history."""
    if not are_ratios(multipliers, len(system[1])) or not are_multipliers(system, multipliers):
        return False
    row, bound = mixture(system, multipliers)
    return none_below_zero(row) and sign_of(bound) < 0
