"""The lines of scripts and the commands that they give ([9.4])."""

from kerbside.errors import BadForm
from kerbside.ratios import read_number, read_ratio

# How many numbers stand behind each word that numbers alone can follow.
NUMBERS = {"strike": 1, "again": 1, "book": 0, "weight": 1, "from": 2, "sure": 0, "price": 4, "bill": 0, "balance": 1,
           "can": 0, "must": 0, "cannot": 0, "few": 0, "search": 0}
RELATIONS = ("<=", ">=", "=")
MAX_DIGITS = 3


def read_command(line):
    """Returns the tuple of what the words of the line tell, the empty one for the empty line, None for a bad line."""
    if line == "":
        return ()
    try:
        return command_of(line)
    except BadForm:
        return None


def command_of(line):
    """Returns the tuple of what the words of a line tell."""
    word, _, rest = line.partition(" ")
    if word in ("yard", "note"):
        return word, rest
    if word == "fix":
        number, _, entry = rest.partition(" ")
        return word, read_small(number), entry
    words = line.split(" ")[1:]
    if word == "ask":
        return read_question(words)
    if NUMBERS.get(word) != len(words):
        raise BadForm("a line begins with a command, and has the words of this command")
    return tuple([word] + [read_small(number) for number in words])


def read_question(words):
    """Returns the command of a question, by its relation, its bound and its terms."""
    if len(words) < 3 or words[0] not in RELATIONS:
        raise BadForm("a question has a relation, a bound and at least one term")
    return "ask", words[0], read_ratio(words[1]), [read_term(word) for word in words[2:]]


def read_term(word):
    """Returns the term of a word."""
    factor, _, place = word.partition("*")
    lot, stroke, household = place.partition("/")
    return read_small(lot), read_small(household) if stroke else None, read_ratio(factor)


def read_small(word):
    """Returns the number of a word."""
    return read_number(word, MAX_DIGITS)
