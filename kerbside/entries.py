"""Entries: what is noted in a book, and their texts ([7.1], [7.2])."""

from kerbside.errors import BadForm, NotAllowed
from kerbside.ratios import MAX_TEXT, is_ratio, ratio_text, read_number, read_ratio
from kerbside.scales import check_day, check_paper, check_scale
from kerbside.weighings import check_amount, check_lots, check_weighing

KINDS = ("find", "known", "paper", "recall", "weighing")
PAPER_PARTS = 6
# Days and lots have at most so many digits.
MAX_DIGITS = 3


def check_entry(entry):
    """Raises NotAllowed if the argument is not an entry."""
    match entry:
        case ("paper", str(), tuple()):
            check_held(entry[1], entry[2])
        case ("recall", str(), tuple(), int()):
            check_held(entry[1], entry[2])
            check_day(entry[3])
        case ("weighing", str(), int(), tuple(), tuple()):
            check_weighing(entry[1:])
            check_short(entry[4])
        case ("known", tuple(), tuple()):
            check_lots(entry[1])
            check_weight(entry[2])
        case ("find", int(), bool()):
            check_lots((entry[1],))
        case _:
            raise NotAllowed("an entry is of one of the five kinds, with what belongs to it")


def check_held(scale, paper):
    """Raises NotAllowed if no entry can tell that the scale has the paper."""
    check_scale(scale)
    if len(paper) != PAPER_PARTS:
        raise NotAllowed("a paper has three days and three ratios")
    check_paper(paper)
    for pair in paper[2:5]:
        check_short(pair)


def check_weight(pair):
    """Raises NotAllowed if the pair is not a weight that an entry can have."""
    if not is_ratio(pair):
        raise NotAllowed("a weight is a ratio")
    check_amount(pair)
    check_short(pair)


def check_short(pair):
    """Raises NotAllowed if the text of the ratio is too long to be read again."""
    if len(ratio_text(pair)) > MAX_TEXT:
        raise NotAllowed("the text of a ratio in an entry has at most 60 characters")


def entry_text(entry):
    """Returns the text of the entry."""
    return " ".join([entry[0]] + words_of(entry))


def words_of(entry):
    """Returns the list of the words behind the kind of the entry."""
    match entry:
        case ("paper", scale, paper):
            return [scale] + paper_words(paper)
        case ("recall", scale, paper, day):
            return [scale] + paper_words(paper) + [str(day)]
        case ("weighing", scale, day, lots, reading):
            return [scale, str(day), lots_text(lots), ratio_text(reading)]
        case ("known", lots, weight):
            return [lots_text(lots), ratio_text(weight)]
        case (_, lot, has):
            return [str(lot), "yes" if has else "no"]


def paper_words(paper):
    """Returns the list of the words of the paper of a scale."""
    first, last, zero, share, drift, checked = paper
    return [str(first), str(last), ratio_text(zero), ratio_text(share), ratio_text(drift), str(checked)]


def lots_text(lots):
    """Returns the text of weighed lots."""
    return ",".join([str(lot) for lot in lots])


def read_entry(text):
    """Returns the entry of the text."""
    entry = entry_of(text.split(" "))
    try:
        check_entry(entry)
    except NotAllowed as e:
        raise BadForm("the text tells of something that is not an entry") from e
    return entry


def entry_of(words):
    """Returns what the words of a text tell, which need not be an entry. Each word is read in just one way."""
    match words:
        case ["paper", scale, first, last, zero, share, drift, checked]:
            return "paper", scale, read_paper([first, last, checked], [zero, share, drift])
        case ["recall", scale, first, last, zero, share, drift, checked, day]:
            return "recall", scale, read_paper([first, last, checked], [zero, share, drift]), read_small(day)
        case ["weighing", scale, day, lots, reading]:
            return "weighing", scale, read_small(day), read_lots(lots), read_ratio(reading)
        case ["known", lots, weight]:
            return "known", read_lots(lots), read_ratio(weight)
        case ["find", lot, "yes"]:
            return "find", read_small(lot), True
        case ["find", lot, "no"]:
            return "find", read_small(lot), False
        case _:
            raise BadForm("the text of an entry begins with its kind, and has the words of this kind")


def read_small(word):
    """Returns the day or the lot of a word."""
    return read_number(word, MAX_DIGITS)


def read_lots(word):
    """Returns the tuple of the lots of a word."""
    return tuple([read_small(lot) for lot in word.split(",")])


def read_paper(days, ratios):
    """Returns the paper of the words of its days (first, last, checked) and of its ratios."""
    first, last, checked = [read_small(word) for word in days]
    zero, share, drift = [read_ratio(word) for word in ratios]
    return first, last, zero, share, drift, checked
