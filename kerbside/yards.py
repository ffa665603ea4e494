"""Yards: lots that are brought, poured together and divided again ([4.1] to [4.6])."""

from kerbside.errors import BadForm, Missing, NotAllowed
from kerbside.papers import JUST
from kerbside.ratios import ONE, ZERO, negated, read_number
from kerbside.rows import MAX_WIDTH

MAX_HOUSEHOLDS = 4
MAX_LOTS = 8
BRING = "bring"
POUR = "pour"
PART = "part"
LENGTHS = {"bring": 2, "pour": 2, "part": 3}
PARTS = (2, 3)
# All numbers in the text of a yard are so small.
MAX_DIGITS = 1


def check_yard(yard):
    """Raises NotAllowed if the argument is not a yard."""
    households, deeds = yard
    if not 1 <= households <= MAX_HOUSEHOLDS:
        raise NotAllowed("a yard has from 1 to 4 households")
    there = []
    made = 0
    for deed in deeds:
        check_deed(deed, households, there)
        new = list(range(made, made + many_made(deed)))
        there = [lot for lot in there if lot not in used_by(deed)] + new
        made += len(new)
        if made > MAX_LOTS or made * households > MAX_WIDTH:
            raise NotAllowed("a yard has at most 8 lots, and at most 24 lots times households")


def check_deed(deed, households, there):
    """Raises NotAllowed if the deed cannot be done while just these lots are there."""
    word = deed[0] if deed else ""
    if LENGTHS.get(word) != len(deed):
        raise NotAllowed("a deed is bring, pour or part, with what belongs to it")
    if word == BRING and not 0 <= deed[1] < households:
        raise NotAllowed("the yard does not have this household")
    if word == POUR and (len(deed[1]) < 2 or len(set(deed[1])) != len(deed[1])):
        raise NotAllowed("at least two lots are poured together, all different")
    if word == PART and deed[2] not in PARTS:
        raise NotAllowed("a lot is divided into 2 or 3")
    for lot in used_by(deed):
        if lot not in there:
            raise NotAllowed("a deed names only lots that are there")


def used_by(deed):
    """Returns the tuple of the lots that are not there any more behind the deed."""
    if deed[0] == POUR:
        return deed[1]
    if deed[0] == PART:
        return (deed[1],)
    return ()


def many_made(deed):
    """Returns the number of the lots that the deed makes."""
    if deed[0] == PART:
        return deed[2]
    return 1


def lots_of(yard):
    """Returns a list with the household (or None) and the tuple of the sources of each lot."""
    lots = []
    for deed in yard[1]:
        household = deed[1] if deed[0] == BRING else None
        lots.extend([(household, used_by(deed))] * many_made(deed))
    return lots


def check_lot(yard, lot):
    """Raises Missing if the yard does not have the lot."""
    if not 0 <= lot < len(lots_of(yard)):
        raise Missing("the yard does not have this lot")


def check_household(yard, household):
    """Raises Missing if the yard does not have the household."""
    if not 0 <= household < yard[0]:
        raise Missing("the yard does not have this household")


def brought_by(yard, household):
    """Returns the list of the lots that were brought from the household, ascending."""
    return [lot for lot, (bringer, _) in enumerate(lots_of(yard)) if bringer == household]


def came_of(yard, lot):
    """Returns the list of the lots that came of the lot, ascending."""
    return [other for other, (_, sources) in enumerate(lots_of(yard)) if lot in sources]


def present(yard):
    """Returns the list of the present lots, ascending."""
    return [lot for lot in range(len(lots_of(yard))) if not came_of(yard, lot)]


def width_of(yard):
    """Returns the width of the yard."""
    return len(lots_of(yard)) * yard[0]


def unknown(yard, lot, household):
    """Returns the index of the content of the lot from the household among the unknowns."""
    check_lot(yard, lot)
    check_household(yard, household)
    return lot * yard[0] + household


def yard_conditions(yard):
    """Returns the list of the conditions of the yard."""
    conditions = []
    made = 0
    for deed in yard[1]:
        new = tuple(range(made, made + many_made(deed)))
        made += len(new)
        whole, parts = (deed[1], new) if deed[0] == PART else (new[0], used_by(deed))
        for household in range(yard[0]):
            if deed[0] != BRING or household != deed[1]:
                conditions.append(sum_condition(yard, whole, parts, household))
    return conditions


def sum_condition(yard, whole, parts, household):
    """Returns the condition that the content of the whole is the sum of those of its parts."""
    row = [ZERO] * width_of(yard)
    row[unknown(yard, whole, household)] = ONE
    for part in parts:
        row[unknown(yard, part, household)] = negated(ONE)
    return tuple(row), JUST, ZERO


def reaches(yard, lot):
    """Returns the list of the households that can reach the lot, ascending."""
    check_lot(yard, lot)
    household, sources = lots_of(yard)[lot]
    found = [] if household is None else [household]
    for source in sources:
        found.extend(reaches(yard, source))
    return sorted(set(found))


def yard_text(yard):
    """Returns the text of the yard."""
    return " ".join([f"{yard[0]}:"] + [deed_text(deed) for deed in yard[1]])


def deed_text(deed):
    """Returns the text of a deed."""
    if deed[0] == BRING:
        return f"+{deed[1]}"
    if deed[0] == POUR:
        return "P" + ",".join([str(lot) for lot in deed[1]])
    return f"D{deed[1]}/{deed[2]}"


def read_yard(text):
    """Returns the yard of the text."""
    words = text.split(" ")
    yard = (read_number(words[0].removesuffix(":"), MAX_DIGITS), tuple([read_deed(word) for word in words[1:]]))
    try:
        check_yard(yard)
    except NotAllowed as e:
        raise BadForm("the text tells of something that is not a yard") from e
    # Every yard has one text, so what is written in another way is no text of it.
    if yard_text(yard) != text:
        raise BadForm("a yard is written without needless signs")
    return yard


def read_deed(word):
    """Returns the deed of a word, which need not be possible."""
    mark, rest = word[:1], word[1:]
    if mark == "+":
        return BRING, read_number(rest, MAX_DIGITS)
    if mark == "P":
        return POUR, tuple([read_number(lot, MAX_DIGITS) for lot in rest.split(",")])
    if mark == "D":
        lot, _, many = rest.partition("/")
        return PART, read_number(lot, MAX_DIGITS), read_number(many, MAX_DIGITS)
    raise BadForm("the text of a deed begins with +, P or D")
