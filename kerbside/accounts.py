"""Accounts: prices, charges and refunds of the households ([8.4] to [8.6])."""

from kerbside.bills import amount_of, check_price
from kerbside.errors import BadForm, Full, NotAllowed
from kerbside.ratios import read_number

HOUSEHOLDS = 4
MAX_NOTES = 200
MAX_PENCE = 999999999
CHARGE = "charge"
REFUND = "refund"
HOUSEHOLD_DIGITS = 1
PRICE_DIGITS = 3
PENCE_DIGITS = 9


def check_household(household):
    """Raises NotAllowed if there is no account for the household."""
    if not 0 <= household < HOUSEHOLDS:
        raise NotAllowed("there are accounts for the households 0 to 3")


def worth(kind, pence):
    """Returns what a note adds to the balance of its household."""
    return pence if kind == CHARGE else -pence


class Accounts:
    """A price for each household, and a list of notes."""

    def __init__(self, prices):
        if len(prices) != HOUSEHOLDS:
            raise NotAllowed("there are four prices")
        for price in prices:
            check_price(price)
        self._prices = list(prices)
        self._notes = []

    def price(self, household):
        """Returns the price of the household."""
        check_household(household)
        return self._prices[household]

    def set_price(self, household, price):
        """Changes the price of the household."""
        check_household(household)
        check_price(price)
        self._prices[household] = price

    def settle(self, weights):
        """Notes what is missing for the balances that are due, and returns the list of the new notes."""
        if len(weights) != HOUSEHOLDS:
            raise NotAllowed("there are four weights")
        amounts = [amount_of(price, weight) for price, weight in zip(self._prices, weights)]
        gaps = [(household, amount - self.balance(household)) for household, amount in enumerate(amounts)]
        gaps = [(household, gap) for household, gap in gaps if gap != 0]
        old = len(self._notes)
        if old + len(gaps) > MAX_NOTES:
            raise Full("there are at most 200 notes")
        if any(abs(gap) > MAX_PENCE for _, gap in gaps):
            raise Full("a note has at most 999999999 pence")
        for household, gap in gaps:
            self.enter(household, CHARGE if gap > 0 else REFUND, abs(gap))
        return self._notes[old:]

    def enter(self, household, kind, pence):
        """Appends a note, which is not checked any more."""
        self._notes.append((len(self._notes), household, kind, pence))

    def balance(self, household):
        """Returns the balance of the household."""
        check_household(household)
        return sum([worth(kind, pence) for _, payer, kind, pence in self._notes if payer == household])

    def notes(self):
        """Returns the list of all notes."""
        return list(self._notes)

    def image(self):
        """Returns the image."""
        parts = [" ".join([str(price) for price in self._prices])]
        for _, household, kind, pence in self._notes:
            parts.append(f"{household} {kind} {pence}")
        return ";".join(parts)


def load_accounts(text):
    """Returns the accounts with this image."""
    parts = text.split(";")
    prices = [read_number(word, PRICE_DIGITS) for word in parts[0].split(" ")]
    notes = parts[1:]
    if len(prices) != HOUSEHOLDS or len(notes) > MAX_NOTES:
        raise BadForm("an image has four prices and at most 200 notes")
    accounts = Accounts(prices)
    for note in notes:
        load_note(accounts, note)
    return accounts


def load_note(accounts, text):
    """Appends the note of a part of an image to the accounts."""
    words = text.split(" ")
    if len(words) != 3 or words[1] not in (CHARGE, REFUND):
        raise BadForm("a note has a household, charge or refund, and the pence")
    household = read_number(words[0], HOUSEHOLD_DIGITS)
    pence = read_number(words[2], PENCE_DIGITS)
    if household >= HOUSEHOLDS or pence == 0:
        raise BadForm("a note is for a household from 0 to 3, and for 1 penny or more")
    if accounts.balance(household) + worth(words[1], pence) < 0:
        raise BadForm("no balance is below 0")
    accounts.enter(household, words[1], pence)
