"""Tables of spans, and the weights that are certain ([5.5], [5.6])."""

from kerbside.follow import span_in, tableau_of
from kerbside.questions import form_of, system_of
from kerbside.ratios import ONE, ZERO
from kerbside.yards import MAX_HOUSEHOLDS, brought_by, lots_of


def spans_of(yard, evidence, sums):
    """Returns the list of the spans of a list of sums over the histories of the yard with the evidence."""
    tableau = tableau_of(system_of(yard, evidence))
    return [span_in(tableau, form_of(yard, terms)) for terms in sums]


def content_spans(yard, evidence):
    """Returns a list with a list for each lot, with the span of its content from each household."""
    households = yard[0]
    many = len(lots_of(yard))
    sums = [[(lot, household, ONE)] for lot in range(many) for household in range(households)]
    spans = spans_of(yard, evidence, sums)
    return [spans[lot * households:(lot + 1) * households] for lot in range(many)]


def weight_spans(yard, evidence):
    """Returns a list with the span of the weight of each lot."""
    return spans_of(yard, evidence, [[(lot, None, ONE)] for lot in range(len(lots_of(yard)))])


def certain_weights(yard, evidence):
    """Returns the list of the four certain weights."""
    sums = [[(lot, household, ONE) for lot in brought_by(yard, household)] for household in range(yard[0])]
    weights = [least for least, _ in spans_of(yard, evidence, sums)]
    return weights + [ZERO] * (MAX_HOUSEHOLDS - yard[0])
