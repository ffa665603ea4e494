"""Bills for the weight that is certain, and their check without a search ([8.1] to [8.3])."""

from kerbside.errors import BadPaper, Endless, Never, NotAllowed
from kerbside.papers import check_paper
from kerbside.ratios import ONE, ZERO, floor_of, negated, of_int, sign_of, times
from kerbside.rows import scale_form
from kerbside.solve import greatest
from kerbside.weighings import check_amount

MAX_PRICE = 999


def is_price(number):
    """Tells whether the integer is a price."""
    return 0 <= number <= MAX_PRICE


def check_price(number):
    """Raises NotAllowed if the integer is not a price."""
    if not is_price(number):
        raise NotAllowed("a price is an integer from 0 to 999")


def amount_of(price, weight):
    """Returns the amount for the price and the weight."""
    check_price(price)
    check_amount(weight)
    return floor_of(times(of_int(price), weight))


def opposite(form):
    """Returns the form multiplied by -1."""
    return scale_form(negated(ONE), form)


def charged_weight(value):
    """Returns the weight of a bill, by the value of its paper."""
    if sign_of(value) > 0:
        return ZERO
    return negated(value)


def bill_of(system, form, price):
    """Returns a bill for the system, the form and the price."""
    check_price(price)
    paper = greatest(system, opposite(form))
    if paper[0] == "never":
        raise Never("there is no history, and so no bill")
    if paper[0] == "endless":
        raise Endless("the values of the form have no lower end")
    weight = charged_weight(paper[1])
    return price, weight, amount_of(price, weight), paper


def check_bill(system, form, bill):
    """Raises BadPaper if the bill is not right for the system and the form."""
    price, weight, amount, paper = bill
    if not is_price(price):
        raise BadPaper("the price of the bill is no price")
    if paper[:1] != ("point",):
        raise BadPaper("a bill has a paper that shows a greatest value")
    check_paper(system, opposite(form), paper)
    if weight != charged_weight(paper[1]):
        raise BadPaper("the weight of the bill is another one than that of its paper")
    if amount != amount_of(price, weight):
        raise BadPaper("the amount of the bill does not follow from its price and its weight")
