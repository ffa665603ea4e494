"""Scales: their papers, and drawers of papers of which some are recalled ([3.1] to [3.3])."""

from kerbside.errors import Missing, NotAllowed
from kerbside.ratios import ONE, compare, is_ratio, sign_of

MAX_DAY = 999
MAX_PAPERS = 12
MAX_NAME = 4
SMALL_LETTERS = "abcdefghijklmnopqrstuvwxyz"


def is_scale(text):
    """Tells whether the text is the name of a scale."""
    return 1 <= len(text) <= MAX_NAME and all(letter in SMALL_LETTERS for letter in text)


def check_scale(text):
    """Raises NotAllowed if the text is not the name of a scale."""
    if not is_scale(text):
        raise NotAllowed("the name of a scale has from 1 to 4 small letters")


def check_day(day):
    """Raises NotAllowed if the integer is not a day."""
    if not 0 <= day <= MAX_DAY:
        raise NotAllowed("a day is an integer from 0 to 999")


def check_paper(paper):
    """Raises NotAllowed if the argument is not the paper of a scale."""
    first, last, zero, share, drift, checked = paper
    for day in (first, last, checked):
        check_day(day)
    if not checked <= first <= last:
        raise NotAllowed("a scale is checked before its paper holds, and the first day is not behind the last one")
    for pair in (zero, share, drift):
        if not is_ratio(pair) or sign_of(pair) < 0:
            raise NotAllowed("zero, share and drift are ratios, not below 0")
    if compare(share, ONE) >= 0:
        raise NotAllowed("the share is less than 1")


def check_drawer(drawer):
    """Raises NotAllowed if the argument is not a drawer."""
    if len(drawer) > MAX_PAPERS:
        raise NotAllowed("a drawer has at most 12 entries")
    for scale, paper, until in drawer:
        check_scale(scale)
        check_paper(paper)
        if until is not None:
            check_day(until)


def recalled(drawer, index, day):
    """Returns the drawer in which the entry with the index is recalled from the day on."""
    if not 0 <= index < len(drawer):
        raise Missing("the drawer has no entry with this index")
    check_day(day)
    scale, paper, until = drawer[index]
    if until is None or day < until:
        until = day
    return drawer[:index] + ((scale, paper, until),) + drawer[index + 1:]


def counts(entry, scale, day):
    """Tells whether an entry counts for the scale and the day."""
    name, paper, until = entry
    return name == scale and paper[0] <= day <= paper[1] and (until is None or day < until)


def counting(drawer, scale, day):
    """Returns the list of the indexes of the entries that count, ascending."""
    check_scale(scale)
    check_day(day)
    return [index for index, entry in enumerate(drawer) if counts(entry, scale, day)]


def drawer_of(papers, recalls):
    """Returns the drawer that is made of a list of (scale, paper) and a list of (scale, paper, day)."""
    for scale, paper in papers:
        check_scale(scale)
        check_paper(paper)
    for scale, paper, day in recalls:
        check_scale(scale)
        check_paper(paper)
        check_day(day)
    pairs = sorted(set(papers))
    if len(pairs) > MAX_PAPERS:
        raise NotAllowed("a drawer has at most 12 entries")
    return tuple((scale, paper, first_recall(scale, paper, recalls)) for scale, paper in pairs)


def first_recall(scale, paper, recalls):
    """Returns the least day from which on the paper of the scale is recalled, None if it is not."""
    return min([day for name, other, day in recalls if name == scale and other == paper], default=None)
