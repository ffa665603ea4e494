"""What several tests share: numbers, systems, and a judgement of papers that does not use the program."""

import math
import re
from fractions import Fraction
from itertools import combinations


def fraction(pair):
    return Fraction(pair[0], pair[1])


def fractions(row):
    return [fraction(pair) for pair in row]


def pair_of(number):
    number = Fraction(number)
    return (number.numerator, number.denominator)


def row_of(*numbers):
    return tuple(pair_of(number) for number in numbers)


def condition_of(numbers, relation, bound):
    return (row_of(*numbers), relation, pair_of(bound))


def form_of(numbers, constant=0):
    return (row_of(*numbers), pair_of(constant))


def turned(form):
    return (tuple((-n, d) for n, d in form[0]), (-form[1][0], form[1][1]))


def dot(first, second):
    return sum((left * right for left, right in zip(first, second, strict=True)), Fraction(0))


def is_exact(pair):
    """Tells whether something is a ratio by the definition of the document."""
    if type(pair) is not tuple or [type(part) for part in pair] != [int, int]:
        return False
    return pair[1] >= 1 and pair == pair_of(Fraction(pair[0], pair[1]))


def is_exact_row(row, width):
    return type(row) is tuple and len(row) == width and all(is_exact(pair) for pair in row)


def keeps_all(conditions, point):
    for row, relation, bound in conditions:
        value = dot(fractions(row), point)
        if value > fraction(bound) or (relation == "=" and value != fraction(bound)):
            return False
    return all(number >= 0 for number in point)


def mixed(system, multipliers):
    """Returns the mixture as fractions, None if these are no multipliers."""
    width, conditions = system
    if any(relation == "<=" and factor < 0 for (_, relation, _), factor in zip(conditions, multipliers, strict=True)):
        return None
    row = [sum((factor * fraction(condition[0][place]) for condition, factor in zip(conditions, multipliers)),
               Fraction(0)) for place in range(width)]
    return row, dot([fraction(condition[2]) for condition in conditions], multipliers)


def shows_point(system, form, value, history, multipliers):
    width, conditions = system
    if not (is_exact(value) and is_exact_row(history, width) and is_exact_row(multipliers, len(conditions))):
        return False
    mixture = mixed(system, fractions(multipliers))
    if mixture is None or not keeps_all(conditions, fractions(history)):
        return False
    reached = dot(fractions(form[0]), fractions(history)) + fraction(form[1])
    covered = all(left >= right for left, right in zip(mixture[0], fractions(form[0]), strict=True))
    return covered and reached == fraction(value) == mixture[1] + fraction(form[1])


def shows_endless(system, form, history, ray):
    width, conditions = system
    if not (is_exact_row(history, width) and is_exact_row(ray, width)):
        return False
    flat = [(row, relation, (0, 1)) for row, relation, _ in conditions]
    kept = keeps_all(conditions, fractions(history)) and keeps_all(flat, fractions(ray))
    return kept and dot(fractions(form[0]), fractions(ray)) > 0


def shows_never(system, form, multipliers):
    if not is_exact_row(multipliers, len(system[1])):
        return False
    mixture = mixed(system, fractions(multipliers))
    return mixture is not None and all(number >= 0 for number in mixture[0]) and mixture[1] < 0


def is_right(system, form, paper):
    """Tells whether a paper is one by the definition [2.5]."""
    judges = {"point": (4, shows_point), "endless": (3, shows_endless), "never": (2, shows_never)}
    many, judge = judges[paper[0]]
    return type(paper) is tuple and len(paper) == many and judge(system, form, *paper[1:])


def solution(rows, bounds):
    """Returns the only solution of a square system of equations, None if it does not have just one."""
    many = len(rows)
    table = [list(row) + [bound] for row, bound in zip(rows, bounds)]
    for col in range(many):
        lead = next((at for at in range(col, many) if table[at][col] != 0), None)
        if lead is None:
            return None
        table[col], table[lead] = table[lead], table[col]
        table[col] = [entry / table[col][col] for entry in table[col]]
        for at in range(many):
            if at != col and table[at][col] != 0:
                table[at] = [entry - table[at][col] * other for entry, other in zip(table[at], table[col])]
    return [row[-1] for row in table]


def corners(system):
    """Returns all corners of the set of histories; it has one if it is not empty."""
    width, conditions = system
    planes = [(fractions(row), fraction(bound)) for row, _, bound in conditions]
    planes += [([Fraction(int(place == index)) for place in range(width)], Fraction(0)) for index in range(width)]
    found = []
    for chosen in combinations(planes, width):
        point = solution([row for row, _ in chosen], [bound for _, bound in chosen])
        if point is not None and keeps_all(conditions, point) and point not in found:
            found.append(point)
    return found


def random_ratio(source, size=5, many=4):
    return pair_of(Fraction(source.randint(-size, size), source.randint(1, many)))


def random_row(source, width, size=5, many=4):
    return tuple((0, 1) if source.random() < 0.3 else random_ratio(source, size, many) for _ in range(width))


def random_bound(source):
    if source.random() < 0.4:
        return (0, 1)
    n, d = random_ratio(source, 9)
    return (n, d) if source.random() < 0.3 else (abs(n), d)


def sum_of_conditions(first, second):
    row = row_of(*[left + right for left, right in zip(fractions(first[0]), fractions(second[0]))])
    return (row, "<=", pair_of(fraction(first[2]) + fraction(second[2])))


def random_system(source, width, many, equations=0.2):
    """Returns a system in which some conditions are there twice or are sums of others."""
    conditions = []
    for _ in range(many):
        chance = source.random()
        if conditions and chance < 0.1:
            conditions.append(source.choice(conditions))
        elif len(conditions) > 1 and chance < 0.2:
            conditions.append(sum_of_conditions(*source.sample(conditions, 2)))
        else:
            relation = "=" if source.random() < equations else "<="
            conditions.append((random_row(source, width), relation, random_bound(source)))
    return (width, tuple(conditions))


def random_form(source, width):
    return (random_row(source, width), random_ratio(source))


def drawn_paper(source, first=0, last=999):
    """Returns a paper of a scale that holds on the days from first to last."""
    zero, share, drift = (pair_of(source.choice(numbers)) for numbers in (
        (0, 0, Fraction(1, 3), 1, 4), (0, 0, Fraction(1, 10), Fraction(1, 2), Fraction(5, 7)),
        (0, 0, Fraction(1, 4), Fraction(2, 3), 2)))
    return (first, last, zero, share, drift, source.randint(max(0, first - 3), first))


def does_count(entry, scale, day):
    """Tells by the definition [3.2] whether an entry counts."""
    name, (first, last, *_), until = entry
    return name == scale and day in range(first, last + 1) and not (until is not None and until <= day)


def errors_of(drawer, scale, day):
    """Returns the slacks and the shares of the entries that count, as fractions."""
    found = []
    for entry in drawer:
        if does_count(entry, scale, day):
            _, _, zero, share, drift, checked = entry[1]
            found.append((fraction(zero) + fraction(drift) * (day - checked), fraction(share)))
    return found


def plain_ends(drawer, scale, day, reading):
    """Returns the ends of [3.4] as fractions; there may be nothing between them."""
    errors = errors_of(drawer, scale, day)
    lows = [(fraction(reading) - slack) / (1 + share) for slack, share in errors]
    highs = [(fraction(reading) + slack) / (1 - share) for slack, share in errors]
    return max(lows + [Fraction(0)]), min(highs) if highs else None


def sources_of(yard):
    """Returns for each lot its household (or None) and its sources, by the definition [4.1]."""
    found = []
    for word, *rest in yard[1]:
        if word == "bring":
            found.append((rest[0], []))
        elif word == "pour":
            found.append((None, list(rest[0])))
        else:
            found += [(None, [rest[0]]) for _ in range(rest[1])]
    return found


def random_yard(source, households, most_deeds, fewest_deeds=0, bringers=()):
    """Returns a yard of up to 8 lots: with lots of the bringers, then with up to so many deeds."""
    room = min(8, 24 // households)
    deeds = [("bring", household) for household in bringers]
    there, made = list(range(len(deeds))), len(deeds)
    for _ in range(source.randint(fewest_deeds, most_deeds)):
        words = ["bring"] * (made < room) + ["pour"] * (2 * (made < room and len(there) > 1))
        words += ["part"] * (2 * (made + 1 < room and there != []))
        if not words:
            break
        word, new = source.choice(words), 1
        if word == "bring":
            deeds.append(("bring", source.randrange(households)))
        elif word == "pour":
            lots = source.sample(there, source.randint(2, len(there)))
            deeds.append(("pour", tuple(lots)))
            there = [lot for lot in there if lot not in lots]
        else:
            lot, new = source.choice(there), source.randint(2, min(3, room - made))
            deeds.append(("part", lot, new))
            there.remove(lot)
        there += range(made, made + new)
        made += new
    return (households, tuple(deeds))


def random_amounts(source, total, many):
    """Returns so many fractions, not below 0, with this sum."""
    cuts = sorted(total * Fraction(source.randint(0, 4), 4) for _ in range(many - 1))
    return [right - left for left, right in zip([Fraction(0)] + cuts, cuts + [total])]


def made_history(source, yard):
    """Returns contents, as fractions, that come of doing the deeds."""
    households, deeds = yard
    contents = []
    for word, *rest in deeds:
        if word == "bring":
            contents.append([Fraction(source.randint(0, 9), source.randint(1, 3)) if household == rest[0] else
                             Fraction(0) for household in range(households)])
        elif word == "pour":
            contents.append([sum((contents[lot][household] for lot in rest[0]), Fraction(0))
                             for household in range(households)])
        else:
            spread = [random_amounts(source, contents[rest[0]][household], rest[1]) for household in range(households)]
            contents += [[amounts[part] for amounts in spread] for part in range(rest[1])]
    return [amount for content in contents for amount in content]


def kept_evidence(source, width, history, many, equations=0.3):
    """Returns a list of conditions that the history keeps."""
    evidence = []
    for _ in range(many):
        row = tuple(pair_of(source.choice((0, 0, 0, 1, 1, 2, -1, Fraction(1, 2)))) for _ in range(width))
        is_equation = source.random() < equations
        room = 0 if is_equation else Fraction(source.randint(0, 4), 2)
        evidence.append((row, "=" if is_equation else "<=", pair_of(dot(fractions(row), history) + room)))
    return evidence


def is_kept(relation, number, bound):
    """Tells whether a number is in the relation to the bound."""
    return {"<=": number <= bound, ">=": number >= bound, "=": number == bound}[relation]


def point_within(system, form, paper, limit, strictly=False):
    """Tells whether a paper is a point whose value is not greater than the limit, or less."""
    if paper[0] != "point" or not is_right(system, form, paper):
        return False
    return fraction(paper[1]) < limit or (not strictly and fraction(paper[1]) == limit)


def is_right_answer(system, form, relation, bound, answer):
    """Tells whether an answer is right by the definition [5.4]."""
    word, *parts = answer
    bound = fraction(bound)
    if word == "never":
        return parts[0][0] == "never" and is_right(system, form, parts[0])
    if word == "certain":
        wanted = {"<=": [(form, bound)], ">=": [(turned(form), -bound)],
                  "=": [(form, bound), (turned(form), -bound)]}[relation]
        return len(parts[0]) == len(wanted) and all(point_within(system, each, paper, limit)
                                                    for (each, limit), paper in zip(wanted, parts[0]))
    if word == "impossible":
        side, paper = parts
        if side not in {"<=": ("above",), ">=": ("below",), "=": ("above", "below")}[relation]:
            return False
        if side == "above":
            return point_within(system, turned(form), paper, -bound, True)
        return point_within(system, form, paper, bound, True)
    if word != "open":
        return False
    histories = [fractions(part) for part in parts if is_exact_row(part, system[0])]
    if len(histories) != 2 or not all(keeps_all(system[1], history) for history in histories):
        return False
    keeping, other = (dot(fractions(form[0]), history) for history in histories)
    return is_kept(relation, keeping, bound) and not is_kept(relation, other, bound)


def ways_of(yard, household):
    """Returns all ways of a household, in ascending order, each judged by the definition [6.1]."""
    lots = sources_of(yard)
    used = [source for _, sources in lots for source in sources]
    found = []
    for many in range(1, len(lots) + 1):
        for way in combinations(range(len(lots)), many):
            follows = all(lot in lots[further][1] for lot, further in zip(way, way[1:]))
            if follows and lots[way[0]][0] == household and way[-1] not in used:
                found.append(list(way))
    return sorted(found)


def plain_open(yard, finds, household):
    """Returns the ways of a household on which no lot was searched and had none."""
    bare = [lot for lot, has in finds if not has]
    return [way for way in ways_of(yard, household) if not set(way) & set(bare)]


def random_finds(source, yard, truthful=True):
    """Returns finds of some lots: those of things that went some ways, or any answers."""
    every = [way for household in range(yard[0]) for way in ways_of(yard, household)]
    held = {lot for way in source.sample(every, source.randint(0, min(3, len(every)))) for lot in way}
    chance, found = source.choice((0.2, 0.5, 0.8)), []
    for lot in range(len(sources_of(yard))):
        if source.random() < chance:
            found.append((lot, lot in held if truthful else source.random() < 0.5))
    return tuple(found)


def words_of_ratio(pair):
    """Returns the text of a ratio by the definition [1.3]."""
    return str(pair[0]) if pair[1] == 1 else f"{pair[0]}/{pair[1]}"


def text_of(entry):
    """Returns the text of an entry by the definition [7.2]."""
    words = []
    for part in entry:
        if isinstance(part, bool):
            words.append("yes" if part else "no")
        elif isinstance(part, (int, str)):
            words.append(str(part))
        elif len(part) == 6:
            words += [words_of_ratio(each) if isinstance(each, tuple) else str(each) for each in part]
        else:
            words.append(part)
    for at, kind in ((3, "weighing"), (1, "known")):
        if entry[0] == kind:
            words[at:] = [",".join(map(str, entry[at])), words_of_ratio(entry[at + 1])]
    return " ".join(words)


NUMBER = re.compile("0|[1-9][0-9]{0,2}")
RATIO = re.compile("(0|[1-9][0-9]*)(?:/([1-9][0-9]*))?")


def ratio_in(word):
    """Returns the ratio, not below 0, that a word is the text of, None if it is not the text of one."""
    found = RATIO.fullmatch(word)
    if found is None or len(word) > 60:
        return None
    n, d = int(found[1]), int(found[2] or 1)
    return (n, d) if math.gcd(n, d) == 1 and (found[2] is None or d > 1) else None


def number_in(word, most):
    """Returns the integer from 0 to most that a word tells, otherwise None."""
    return int(word) if NUMBER.fullmatch(word) and int(word) <= most else None


def lots_in(word):
    lots = [number_in(lot, 99) for lot in word.split(",")]
    if None in lots or len(lots) > 8 or any(left >= right for left, right in zip(lots, lots[1:])):
        return None
    return tuple(lots)


def paper_in(words):
    first, last, checked = (number_in(words[at], 999) for at in (0, 1, 5))
    zero, share, drift = (ratio_in(word) for word in words[2:5])
    if None in (first, last, checked, zero, share, drift) or not checked <= first <= last or share[0] >= share[1]:
        return None
    return (first, last, zero, share, drift, checked)


def entry_in(text):
    """Returns the entry that a text is the text of by [7.1] and [7.2], None if it is not the text of one."""
    kind, *words = text.split(" ")
    scale = words[0] if words and re.fullmatch("[a-z]{1,4}", words[0]) else None
    parts = [None]
    if kind == "paper" and len(words) == 7:
        parts = [scale, paper_in(words[1:])]
    elif kind == "recall" and len(words) == 8:
        parts = [scale, paper_in(words[1:7]), number_in(words[7], 999)]
    elif kind == "weighing" and len(words) == 4:
        parts = [scale, number_in(words[1], 999), lots_in(words[2]), ratio_in(words[3])]
    elif kind == "known" and len(words) == 2:
        parts = [lots_in(words[0]), ratio_in(words[1])]
    elif kind == "find" and len(words) == 2:
        parts = [number_in(words[0], 99), {"yes": True, "no": False}.get(words[1])]
    return None if None in parts else (kind, *parts)


def drawn_lots(source, many):
    """Returns ascending lots, all less than a number."""
    return tuple(sorted(source.sample(range(many), source.randint(1, min(many, 8)))))


def random_entry(source, kind=None, lots=100):
    """Returns an entry of the kind, or of any kind, that names lots less than a number."""
    kind = kind or source.choice(("find", "known", "paper", "recall", "weighing"))
    scale = "".join(source.choice("abz") for _ in range(source.choice((1, 1, 2, 4))))
    amount = pair_of(Fraction(source.randint(0, 30), source.choice((1, 1, 2, 7))))
    first = source.choice((0, 3, 12, 500))
    paper = drawn_paper(source, first, source.choice((first, first + 1, 999)))
    return {"find": ("find", source.randrange(lots), source.random() < 0.5),
            "known": ("known", drawn_lots(source, lots), amount),
            "paper": ("paper", scale, paper),
            "recall": ("recall", scale, paper, source.choice((0, 7, 999))),
            "weighing": ("weighing", scale, source.choice((0, 12, 999)), drawn_lots(source, lots), amount)}[kind]


def least_value(system, form):
    """Returns the least value of a form over all histories of a small system, or "never" or "endless"."""
    points = corners(system)
    if not points:
        return "never"
    width, conditions = system
    # If values have no lower end, they fall along an edge of the histories that goes on for ever.
    flat = tuple((row, relation, (0, 1)) for row, relation, _ in conditions)
    edges = corners((width, flat + ((((1, 1),) * width, "=", (1, 1)),)))
    if any(dot(fractions(form[0]), edge) < 0 for edge in edges):
        return "endless"
    return min(dot(fractions(form[0]), point) for point in points) + fraction(form[1])
