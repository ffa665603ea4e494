"""Foreign things: the ways that they can go, and where they were found ([6.1], [6.2])."""

from kerbside.errors import NotAllowed
from kerbside.yards import brought_by, came_of, check_household, check_lot, lots_of


def check_finds(yard, finds):
    """Raises NotAllowed if the argument is not finds of lots of the yard."""
    lots = [lot for lot, _ in finds]
    if lots != sorted(set(lots)):
        raise NotAllowed("finds are of different lots, in ascending order")
    many = len(lots_of(yard))
    for lot in lots:
        if not 0 <= lot < many:
            raise NotAllowed("the yard does not have this lot")


def with_things(finds):
    """Returns the list of the lots that were searched and had foreign things."""
    return [lot for lot, has in finds if has]


def without_things(finds):
    """Returns the list of the lots that were searched and had none."""
    return [lot for lot, has in finds if not has]


def ways(yard, household):
    """Returns the list of the ways of a household, in ascending order."""
    check_household(yard, household)
    return [way for lot in brought_by(yard, household) for way in ways_from(yard, lot)]


def ways_from(yard, lot):
    """Returns the list of what a way can be from the lot on, in ascending order."""
    further = came_of(yard, lot)
    if not further:
        return [[lot]]
    return [[lot] + way for other in further for way in ways_from(yard, other)]


def open_ways(yard, finds, household):
    """Returns the list of the ways of a household that are open."""
    bare = without_things(finds)
    return [way for way in ways(yard, household) if misses(way, bare)]


def misses(way, lots):
    """Tells whether none of the lots is on the way."""
    return not any(lot in lots for lot in way)


def with_find(yard, finds, lot, has):
    """Returns the finds with a further one."""
    check_lot(yard, lot)
    if any(searched == lot for searched, _ in finds):
        raise NotAllowed("the lot was searched already")
    return tuple(sorted([*finds, (lot, has)]))
