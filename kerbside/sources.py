"""Which households explain the finds, and which search tells most ([6.3], [6.4], [6.6])."""

from itertools import combinations

from kerbside.errors import Missing, Never
from kerbside.finds import open_ways, with_find, with_things
from kerbside.yards import present


def explanations(yard, finds):
    """Returns the list of all explanations, in ascending order."""
    openings = [open_ways(yard, finds, household) for household in range(yard[0])]
    able = [household for household in range(yard[0]) if openings[household]]
    lots = with_things(finds)
    found = []
    for many in range(len(able) + 1):
        found.extend([chosen for chosen in combinations(able, many) if explains(openings, chosen, lots)])
    return sorted(found)


def explains(openings, households, lots):
    """Tells whether each of the lots is on one of the open ways of these households."""
    passed = [lot for household in households for way in openings[household] for lot in way]
    return all(lot in passed for lot in lots)


def fewest(yard, finds):
    """Returns the list of the explanations with the fewest households."""
    every = explanations(yard, finds)
    least = min([len(chosen) for chosen in every], default=0)
    return [chosen for chosen in every if len(chosen) == least]


def least_ones(yard, finds):
    """Returns the list of the explanations of which no other one is a part."""
    every = explanations(yard, finds)
    return [chosen for chosen in every if not has_part(chosen, every)]


def has_part(households, others):
    """Tells whether one of the others is a part of the households, and not all of them."""
    for other in others:
        if other != households and all(household in households for household in other):
            return True
    return False


def some_explanations(yard, finds):
    """Returns the list of all explanations. Raises Never if there is none."""
    every = explanations(yard, finds)
    if not every:
        raise Never("nothing explains the finds")
    return every


def can_be(yard, finds):
    """Returns the list of the households that can be a source, ascending."""
    every = some_explanations(yard, finds)
    return [household for household in range(yard[0]) if any([household in chosen for chosen in every])]


def must_be(yard, finds):
    """Returns the list of the households that must be a source, ascending."""
    every = some_explanations(yard, finds)
    return [household for household in range(yard[0]) if all([household in chosen for chosen in every])]


def cannot_be(yard, finds):
    """Returns the list of the households that cannot be a source, ascending."""
    able = can_be(yard, finds)
    return [household for household in range(yard[0]) if household not in able]


def worse_case(yard, finds, lot):
    """Returns the greater number of explanations behind both answers of the search of a lot."""
    return max([len(explanations(yard, with_find(yard, finds, lot, has))) for has in (True, False)])


def best_search(yard, finds):
    """Returns the lot of the best search and its worse case."""
    some_explanations(yard, finds)
    searched = [lot for lot, _ in finds]
    cases = [(worse_case(yard, finds, lot), lot) for lot in present(yard) if lot not in searched]
    if not cases:
        raise Missing("no lot can still be searched")
    worse, lot = min(cases)
    return lot, worse
