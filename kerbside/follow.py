"""What follows from a system: spans, certain and possible conditions, fixed and spare parts ([2.7], [2.8])."""

from kerbside.errors import Never
from kerbside.papers import JUST
from kerbside.ratios import ZERO, compare, negated
from kerbside.rows import scale_form, unit_row
from kerbside.tableau import Tableau

MINUS_ONE = (-1, 1)


def tableau_of(system):
    """Returns a tableau of the system. Raises Never if it has no history."""
    tableau = Tableau(system)
    if tableau.clash is not None:
        raise Never("the system has no history")
    return tableau


def history_of(system):
    """Returns a history of the system."""
    return tableau_of(system).history()


def span(system, form):
    """Returns the least and the greatest value of the form, None for an end that there is not."""
    return span_in(tableau_of(system), form)


def span_in(tableau, form):
    """Returns the span of the form in a system by its tableau; one tableau does for the spans of many forms."""
    most = tableau.highest(form)
    turned = tableau.highest(scale_form(MINUS_ONE, form))
    if turned is None:
        return None, most
    return negated(turned), most


def is_within(top, bound):
    """Tells whether a greatest value is there, and not greater than the bound."""
    return top is not None and compare(top, bound) <= 0


def certain(system, condition):
    """Tells whether each history keeps the condition."""
    row, relation, bound = condition
    tableau = tableau_of(system)
    form = (row, ZERO)
    if not is_within(tableau.highest(form), bound):
        return False
    return relation != JUST or is_within(tableau.highest(scale_form(MINUS_ONE, form)), negated(bound))


def possible(system, condition):
    """Tells whether some history keeps the condition."""
    width, conditions = system
    return Tableau((width, conditions + (condition,))).clash is None


def fixed_values(system):
    """Returns a list with the value of each unknown that is fixed, and None for the others."""
    tableau = tableau_of(system)
    values = []
    for index, value in enumerate(tableau.history()):
        form = (unit_row(system[0], index), ZERO)
        is_fixed = tableau.highest(form) == value and tableau.highest(scale_form(MINUS_ONE, form)) == negated(value)
        values.append(value if is_fixed else None)
    return values


def without(system, index):
    """Returns the system without the condition with the index."""
    width, conditions = system
    return width, conditions[:index] + conditions[index + 1:]


def is_spare(system, index):
    """Tells whether the system has the same histories without the condition with the index."""
    try:
        return certain(without(system, index), system[1][index])
    except Never:
        return True


def spare_conditions(system):
    """Returns the list of the indexes of all spare conditions, ascending, each judged by itself."""
    return [index for index in range(len(system[1])) if is_spare(system, index)]


def slim(system):
    """Returns the slim system."""
    for index in reversed(range(len(system[1]))):
        if is_spare(system, index):
            system = without(system, index)
    return system
