"""Papers that show whether a household must, can or cannot be a source ([6.5])."""

from kerbside.errors import BadPaper
from kerbside.finds import open_ways, with_things, without_things
from kerbside.sources import cannot_be, must_be
from kerbside.yards import brought_by, came_of, check_household, lots_of, present


def reason(yard, finds, household):
    """Returns a paper for the household."""
    check_household(yard, household)
    if household in must_be(yard, finds):
        closed = reached_from(yard, finds, brought_by_others(yard, household))
        # Some explanation goes through all lots with things, so only this household reaches one outside of the list.
        return "must", min([lot for lot in with_things(finds) if lot not in closed]), closed
    if household in cannot_be(yard, finds):
        return "cannot", reached_from(yard, finds, brought_by(yard, household))
    return "can", open_ways(yard, finds, household)[0]


def brought_by_others(yard, household):
    """Returns the list of the lots that other households brought, ascending."""
    return [lot for lot, (bringer, _) in enumerate(lots_of(yard)) if bringer not in (None, household)]


def reached_from(yard, finds, start):
    """Returns the list of the lots to which foreign things come from the lots of a list, ascending.

    They come to none that was searched and had none.
    """
    bare = without_things(finds)
    reached = []
    for lot, (_, sources) in enumerate(lots_of(yard)):
        comes = lot in start or any(source in reached for source in sources)
        if comes and lot not in bare:
            reached.append(lot)
    return reached


def check_reason(yard, finds, household, paper):
    """Raises BadPaper if this is not a paper for the household."""
    check_household(yard, household)
    word = paper[0] if paper else ""
    parts = paper[1:]
    if word == "can" and len(parts) == 1:
        right = parts[0] in open_ways(yard, finds, household)
    elif word == "must" and len(parts) == 2:
        right = shows_must(yard, finds, household, parts)
    elif word == "cannot" and len(parts) == 1:
        right = shows_cannot(yard, finds, household, parts[0])
    else:
        right = False
    if not right:
        raise BadPaper("the paper does not show what it should show")


def shows_must(yard, finds, household, parts):
    """Tells whether the lot had things that can only come from the household, as the closed list shows."""
    lot, closed = parts
    if lot not in with_things(finds) or lot in closed:
        return False
    return is_closed(yard, finds, brought_by_others(yard, household), closed)


def shows_cannot(yard, finds, household, closed):
    """Tells whether the closed list shows that nothing from the household comes to a present lot."""
    if any(lot in closed for lot in present(yard)):
        return False
    return is_closed(yard, finds, brought_by(yard, household), closed)


def is_closed(yard, finds, start, closed):
    """Tells whether a list is in order, and foreign things from the lots of the start do not come out of it."""
    many = len(lots_of(yard))
    if closed != sorted(set(closed)) or any(not 0 <= lot < many for lot in closed):
        return False
    held = closed + without_things(finds)
    further = [other for lot in closed for other in came_of(yard, lot)]
    return all(lot in held for lot in start) and all(lot in held for lot in further)
