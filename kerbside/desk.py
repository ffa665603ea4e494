"""The desk: scripts that fill a book and ask what follows ([9.3], [9.4])."""

from kerbside.accounts import CHARGE, HOUSEHOLDS, Accounts
from kerbside.book import Book
from kerbside.entries import read_entry
from kerbside.errors import BadForm, Endless, Full, Missing, Never, NotAllowed
from kerbside.evidence import conditions_of, finds_of
from kerbside.follow import span
from kerbside.lines import read_command
from kerbside.questions import answer_of, form_of, system_of
from kerbside.ratios import ONE, ratio_text
from kerbside.sources import best_search, can_be, cannot_be, fewest, must_be
from kerbside.tables import certain_weights
from kerbside.yards import read_yard

MAX_SCRIPT = 3000
MAX_LINES = 40
DONE = "ok"
NOTHING = "-"


class Desk:
    """A yard, a book and accounts."""

    def __init__(self):
        self.yard = (1, ())
        self.book = Book()
        self.accounts = Accounts([0] * HOUSEHOLDS)

    def conditions(self):
        """Returns the list of the conditions of the book for the yard."""
        return conditions_of(self.yard, self.book)

    def finds(self):
        """Returns the tuple of the finds of the book."""
        return finds_of(self.yard, self.book)


def put_yard(desk, text):
    """Gives the desk the yard of the text, which goes on where the present one ends."""
    yard = read_yard(text)
    households, deeds = desk.yard
    if deeds and yard[0] != households:
        raise NotAllowed("the number of households stays as it is once there are deeds")
    if yard[1][:len(deeds)] != deeds:
        raise NotAllowed("the deeds that were done are the first ones of the new yard")
    desk.yard = yard
    return DONE


def note_entry(desk, text):
    """Adds the entry of the text to the book."""
    return str(desk.book.add(read_entry(text)))


def fix_record(desk, number, text):
    """Corrects a record by the entry of the text."""
    desk.book.correct(number, read_entry(text))
    return DONE


def strike_record(desk, number):
    """Lets a record be withdrawn."""
    desk.book.withdraw(number)
    return DONE


def restore_record(desk, number):
    """Lets a record stand again."""
    desk.book.restore(number)
    return DONE


def tell_book(desk):
    """Tells the image of the book."""
    return desk.book.image() or NOTHING


def tell_weight(desk, lot):
    """Tells the span of the weight of a lot."""
    return span_text(desk, [(lot, None, ONE)])


def tell_content(desk, household, lot):
    """Tells the span of the content of a lot from a household."""
    return span_text(desk, [(lot, household, ONE)])


def span_text(desk, terms):
    """Returns the texts of both ends of the span of a sum."""
    system = system_of(desk.yard, desk.conditions())
    least, most = span(system, form_of(desk.yard, terms))
    return f"{end_text(least)} {end_text(most)}"


def end_text(end):
    """Returns the text of the end of a span."""
    return NOTHING if end is None else ratio_text(end)


def tell_answer(desk, relation, bound, terms):
    """Tells the first word of an answer to a question."""
    answer = answer_of(desk.yard, desk.conditions(), (terms, relation, bound))
    return answer[0]


def tell_certain(desk):
    """Tells the certain weights."""
    return listed([ratio_text(weight) for weight in certain_weights(desk.yard, desk.conditions())])


def put_prices(desk, *prices):
    """Gives the accounts their prices."""
    for household, price in enumerate(prices):
        desk.accounts.set_price(household, price)
    return DONE


def tell_bill(desk):
    """Settles the accounts for the certain weights, and tells the new notes."""
    notes = desk.accounts.settle(certain_weights(desk.yard, desk.conditions()))
    return listed([note_text(note) for note in notes])


def note_text(note):
    """Returns the text of a note of the accounts."""
    _, household, kind, pence = note
    sign = "+" if kind == CHARGE else "-"
    return f"{household}{sign}{pence}"


def tell_balance(desk, household):
    """Tells the balance of a household."""
    return str(desk.accounts.balance(household))


def tell_can(desk):
    """Tells the households that can be a source."""
    return listed([str(household) for household in can_be(desk.yard, desk.finds())])


def tell_must(desk):
    """Tells the households that must be a source."""
    return listed([str(household) for household in must_be(desk.yard, desk.finds())])


def tell_cannot(desk):
    """Tells the households that cannot be a source."""
    return listed([str(household) for household in cannot_be(desk.yard, desk.finds())])


def tell_few(desk):
    """Tells the explanations with the fewest households."""
    return listed([explanation_text(households) for households in fewest(desk.yard, desk.finds())])


def explanation_text(households):
    """Returns the text of an explanation."""
    return ",".join([str(household) for household in households]) or "."


def tell_search(desk):
    """Tells the best search and its worse case."""
    lot, worse = best_search(desk.yard, desk.finds())
    return f"{lot} {worse}"


def listed(words):
    """Returns the words, separated by spaces, or the sign for none."""
    return " ".join(words) or NOTHING


ACTIONS = {"yard": put_yard, "note": note_entry, "fix": fix_record, "strike": strike_record, "again": restore_record,
           "book": tell_book, "weight": tell_weight, "from": tell_content, "ask": tell_answer, "sure": tell_certain,
           "price": put_prices, "bill": tell_bill, "balance": tell_balance, "can": tell_can, "must": tell_must,
           "cannot": tell_cannot, "few": tell_few, "search": tell_search}


def answer_line(desk, line):
    """Returns the answer to a line."""
    command = read_command(line)
    if command is None:
        return "bad"
    if command == ():
        return ""
    return answer_command(desk, command[0], command[1:])


def answer_command(desk, word, parts):
    """Returns the answer to a command, or the word of the error that it ends with."""
    action = ACTIONS[word]
    try:
        return action(desk, *parts)
    except NotAllowed:
        return "refused"
    except BadForm:
        return "form"
    except Missing:
        return "missing"
    except Never:
        return "never"
    except Endless:
        return "endless"
    except Full:
        return "full"


def run_script(script):
    """Runs the lines of the script on a new desk, and returns the list of the answers."""
    lines = script.split("\n")
    if len(script) > MAX_SCRIPT or len(lines) > MAX_LINES:
        raise NotAllowed("a script has at most 3000 characters and 40 lines")
    desk = Desk()
    return [answer_line(desk, line) for line in lines]
