"""Rows of ratios, and forms: a row with a constant ([1.5], [1.6])."""

from kerbside.errors import NotAllowed
from kerbside.ratios import ONE, ZERO, is_ratio, of_int, plus, times

MAX_WIDTH = 24


def check_row(row):
    """Raises NotAllowed if the argument is not a row."""
    check_width(len(row))
    for pair in row:
        if not is_ratio(pair):
            raise NotAllowed("a row consists of ratios")


def check_width(width):
    """Raises NotAllowed if no row has this width."""
    if not 1 <= width <= MAX_WIDTH:
        raise NotAllowed("a row has from 1 to 24 places")


def check_same_width(first, second):
    """Raises NotAllowed if the two rows do not have the same width."""
    if len(first) != len(second):
        raise NotAllowed("the rows do not have the same width")


def zero_row(width):
    """Returns the row with 0 at all places."""
    check_width(width)
    return (ZERO,) * width


def unit_row(width, index):
    """Returns the row with 1 at one place and 0 at all others."""
    check_width(width)
    if not 0 <= index < width:
        raise NotAllowed("the row does not have this place")
    return (ZERO,) * index + (ONE,) + (ZERO,) * (width - index - 1)


def row_of_ints(numbers):
    """Returns the row for a list of integers."""
    check_width(len(numbers))
    return tuple(of_int(number) for number in numbers)


def add_rows(first, second):
    """Returns the sum of two rows."""
    check_same_width(first, second)
    return tuple(plus(left, right) for left, right in zip(first, second))


def scale_row(factor, row):
    """Returns the row, multiplied by a ratio."""
    return tuple(times(factor, pair) for pair in row)


def product(first, second):
    """Returns the product of two rows, a ratio."""
    check_same_width(first, second)
    total = ZERO
    for left, right in zip(first, second):
        total = plus(total, times(left, right))
    return total


def value_at(form, row):
    """Returns the value of a form at a row."""
    return plus(product(form[0], row), form[1])


def add_forms(first, second):
    """Returns the sum of two forms."""
    return add_rows(first[0], second[0]), plus(first[1], second[1])


def scale_form(factor, form):
    """Returns the form, multiplied by a ratio."""
    return scale_row(factor, form[0]), times(factor, form[1])
