"""What the evidence of a book says of a yard ([9.1], [9.2])."""

from kerbside.errors import Never
from kerbside.papers import JUST
from kerbside.questions import form_of
from kerbside.ratios import ONE
from kerbside.scales import drawer_of
from kerbside.weighings import weighing_conditions
from kerbside.yards import check_lot, unknown, width_of


def conditions_of(yard, book):
    """Returns the list of the conditions of the book for the yard."""
    known = [known_condition(yard, lots, weight) for lots, weight in book.of_kind("known")]
    weighings = [(weighing, places_of(yard, weighing[2])) for weighing in book.of_kind("weighing")]
    drawer = drawer_of(book.of_kind("paper"), book.of_kind("recall"))
    width = width_of(yard)
    conditions = known
    for weighing, places in weighings:
        conditions = conditions + weighing_conditions(drawer, weighing, places, width)
    return conditions


def known_condition(yard, lots, weight):
    """Returns the condition that the lots weigh together just the weight."""
    row, _ = form_of(yard, [(lot, None, ONE) for lot in lots])
    return row, JUST, weight


def places_of(yard, lots):
    """Returns the list of the unknowns of all contents of the lots, ascending."""
    return [unknown(yard, lot, household) for lot in lots for household in range(yard[0])]


def finds_of(yard, book):
    """Returns the tuple of the finds of the book for the yard."""
    finds = sorted(book.of_kind("find"))
    lots = [lot for lot, _ in finds]
    for lot in lots:
        check_lot(yard, lot)
    if len(set(lots)) != len(lots):
        raise Never("a lot had foreign things in it and none")
    return tuple(finds)
