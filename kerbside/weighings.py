"""Weighings: what readings say of true weights, and weights of readings ([3.1], [3.4] to [3.6])."""

from kerbside.errors import Never, NotAllowed
from kerbside.papers import AT_MOST
from kerbside.ratios import ONE, ZERO, compare, is_ratio, minus, negated, of_int, over, plus, sign_of, times
from kerbside.scales import check_day, check_scale, counting

MAX_WEIGHED = 8
MAX_LOT = 99


def check_amount(pair):
    """Raises NotAllowed if a reading or a weight is below 0."""
    if sign_of(pair) < 0:
        raise NotAllowed("readings and weights are not below 0")


def slack_of(paper, day):
    """Returns the slack of a paper on a day."""
    zero, _, drift, checked = paper[2:]
    return plus(zero, times(drift, of_int(day - checked)))


def limits(drawer, scale, day):
    """Returns the list of the slack and the share of each entry that counts, in the order of the drawer."""
    papers = [drawer[index][1] for index in counting(drawer, scale, day)]
    return [(slack_of(paper, day), paper[3]) for paper in papers]


def closest(lows, highs):
    """Returns the greatest of the lower ends and 0, and the least of the upper ends, None if there are none."""
    low, high = ZERO, None
    for pair in lows:
        if compare(pair, low) > 0:
            low = pair
    for pair in highs:
        if high is None or compare(pair, high) < 0:
            high = pair
    return low, high


def ends(drawer, scale, day, reading):
    """Returns the ends between which the true weight lies by the reading, the upper one None if there is none."""
    found = limits(drawer, scale, day)
    check_amount(reading)
    lows = [over(minus(reading, slack), plus(ONE, share)) for slack, share in found]
    highs = [over(plus(reading, slack), minus(ONE, share)) for slack, share in found]
    low, high = closest(lows, highs)
    if high is not None and compare(low, high) > 0:
        raise Never("no true weight can have given this reading")
    return low, high


def margins(found, weight):
    """Returns how far a reading of the weight may be from it, by each slack and share of a list."""
    return [plus(slack, times(share, weight)) for slack, share in found]


def readings(drawer, scale, day, weight):
    """Returns the ends of the readings that the weight allows, the upper one None if there is none."""
    found = limits(drawer, scale, day)
    check_amount(weight)
    spread = margins(found, weight)
    return closest([minus(weight, margin) for margin in spread], [plus(weight, margin) for margin in spread])


def allows(drawer, scale, day, reading, weight):
    """Tells whether all that the entries say of this reading of this weight holds."""
    found = limits(drawer, scale, day)
    check_amount(reading)
    check_amount(weight)
    gap = minus(reading, weight)
    if sign_of(gap) < 0:
        gap = negated(gap)
    return all(compare(gap, margin) <= 0 for margin in margins(found, weight))


def check_lots(lots):
    """Raises NotAllowed if these are not lots that may be weighed together."""
    if not 1 <= len(lots) <= MAX_WEIGHED:
        raise NotAllowed("from 1 to 8 lots are weighed together")
    if list(lots) != sorted(set(lots)):
        raise NotAllowed("weighed lots are different and in ascending order")
    if lots[0] < 0 or lots[-1] > MAX_LOT:
        raise NotAllowed("weighed lots have numbers from 0 to 99")


def check_weighing(weighing):
    """Raises NotAllowed if the argument is not a weighing."""
    scale, day, lots, reading = weighing
    check_scale(scale)
    check_day(day)
    check_lots(lots)
    if not is_ratio(reading):
        raise NotAllowed("a reading is a ratio")
    check_amount(reading)


def check_places(places, width):
    """Raises NotAllowed if one of the places is not in a row of the width, or is there twice."""
    if len(set(places)) != len(places):
        raise NotAllowed("no place is named twice")
    for place in places:
        if not 0 <= place < width:
            raise NotAllowed("the row does not have this place")


def row_with(pair, places, width):
    """Returns the row with the ratio at each of the places and 0 elsewhere."""
    return tuple(pair if place in places else ZERO for place in range(width))


def weighing_conditions(drawer, weighing, places, width):
    """Returns the list of the conditions of a weighing of what stands at the places of a row."""
    scale, day, _, reading = weighing
    check_places(places, width)
    conditions = []
    for slack, share in limits(drawer, scale, day):
        conditions.append((row_with(minus(ONE, share), places, width), AT_MOST, plus(reading, slack)))
        conditions.append((row_with(negated(plus(ONE, share)), places, width), AT_MOST, minus(slack, reading)))
    return conditions
