"""What several tests share: numbers, systems, and a judgement of papers that does not use the program."""

from fractions import Fraction
from itertools import combinations


def fraction(pair):
    return Fraction(pair[0], pair[1])


def fractions(row):
    return [fraction(pair) for pair in row]


def pair_of(number):
    number = Fraction(number)
    return (number.numerator, number.denominator)


def row_of(*numbers):
    return tuple(pair_of(number) for number in numbers)


def condition_of(numbers, relation, bound):
    return (row_of(*numbers), relation, pair_of(bound))


def form_of(numbers, constant=0):
    return (row_of(*numbers), pair_of(constant))


def turned(form):
    return (tuple((-n, d) for n, d in form[0]), (-form[1][0], form[1][1]))


def dot(first, second):
    return sum((left * right for left, right in zip(first, second, strict=True)), Fraction(0))


def is_exact(pair):
    """Tells whether something is a ratio by the definition of the document."""
    if type(pair) is not tuple or [type(part) for part in pair] != [int, int]:
        return False
    return pair[1] >= 1 and pair == pair_of(Fraction(pair[0], pair[1]))


def is_exact_row(row, width):
    return type(row) is tuple and len(row) == width and all(is_exact(pair) for pair in row)


def keeps_all(conditions, point):
    for row, relation, bound in conditions:
        value = dot(fractions(row), point)
        if value > fraction(bound) or (relation == "=" and value != fraction(bound)):
            return False
    return all(number >= 0 for number in point)


def mixed(system, multipliers):
    """Returns the mixture as fractions, None if these are no multipliers."""
    width, conditions = system
    if any(relation == "<=" and factor < 0 for (_, relation, _), factor in zip(conditions, multipliers, strict=True)):
        return None
    row = [sum((factor * fraction(condition[0][place]) for condition, factor in zip(conditions, multipliers)),
               Fraction(0)) for place in range(width)]
    return row, dot([fraction(condition[2]) for condition in conditions], multipliers)


def shows_point(system, form, value, history, multipliers):
    width, conditions = system
    if not (is_exact(value) and is_exact_row(history, width) and is_exact_row(multipliers, len(conditions))):
        return False
    mixture = mixed(system, fractions(multipliers))
    if mixture is None or not keeps_all(conditions, fractions(history)):
        return False
    reached = dot(fractions(form[0]), fractions(history)) + fraction(form[1])
    covered = all(left >= right for left, right in zip(mixture[0], fractions(form[0]), strict=True))
    return covered and reached == fraction(value) == mixture[1] + fraction(form[1])


def shows_endless(system, form, history, ray):
    width, conditions = system
    if not (is_exact_row(history, width) and is_exact_row(ray, width)):
        return False
    flat = [(row, relation, (0, 1)) for row, relation, _ in conditions]
    kept = keeps_all(conditions, fractions(history)) and keeps_all(flat, fractions(ray))
    return kept and dot(fractions(form[0]), fractions(ray)) > 0


def shows_never(system, form, multipliers):
    if not is_exact_row(multipliers, len(system[1])):
        return False
    mixture = mixed(system, fractions(multipliers))
    return mixture is not None and all(number >= 0 for number in mixture[0]) and mixture[1] < 0


def is_right(system, form, paper):
    """Tells whether a paper is one by the definition [2.5]."""
    judges = {"point": (4, shows_point), "endless": (3, shows_endless), "never": (2, shows_never)}
    many, judge = judges[paper[0]]
    return type(paper) is tuple and len(paper) == many and judge(system, form, *paper[1:])


def solution(rows, bounds):
    """Returns the only solution of a square system of equations, None if it does not have just one."""
    many = len(rows)
    table = [list(row) + [bound] for row, bound in zip(rows, bounds)]
    for col in range(many):
        lead = next((at for at in range(col, many) if table[at][col] != 0), None)
        if lead is None:
            return None
        table[col], table[lead] = table[lead], table[col]
        table[col] = [entry / table[col][col] for entry in table[col]]
        for at in range(many):
            if at != col and table[at][col] != 0:
                table[at] = [entry - table[at][col] * other for entry, other in zip(table[at], table[col])]
    return [row[-1] for row in table]


def corners(system):
    """Returns all corners of the set of histories; it has one if it is not empty."""
    width, conditions = system
    planes = [(fractions(row), fraction(bound)) for row, _, bound in conditions]
    planes += [([Fraction(int(place == index)) for place in range(width)], Fraction(0)) for index in range(width)]
    found = []
    for chosen in combinations(planes, width):
        point = solution([row for row, _ in chosen], [bound for _, bound in chosen])
        if point is not None and keeps_all(conditions, point) and point not in found:
            found.append(point)
    return found


def random_ratio(source, size=5, many=4):
    return pair_of(Fraction(source.randint(-size, size), source.randint(1, many)))


def random_row(source, width, size=5, many=4):
    return tuple((0, 1) if source.random() < 0.3 else random_ratio(source, size, many) for _ in range(width))


def random_bound(source):
    if source.random() < 0.4:
        return (0, 1)
    n, d = random_ratio(source, 9)
    return (n, d) if source.random() < 0.3 else (abs(n), d)


def sum_of_conditions(first, second):
    row = row_of(*[left + right for left, right in zip(fractions(first[0]), fractions(second[0]))])
    return (row, "<=", pair_of(fraction(first[2]) + fraction(second[2])))


def random_system(source, width, many, equations=0.2):
    """Returns a system in which some conditions are there twice or are sums of others."""
    conditions = []
    for _ in range(many):
        chance = source.random()
        if conditions and chance < 0.1:
            conditions.append(source.choice(conditions))
        elif len(conditions) > 1 and chance < 0.2:
            conditions.append(sum_of_conditions(*source.sample(conditions, 2)))
        else:
            relation = "=" if source.random() < equations else "<="
            conditions.append((random_row(source, width), relation, random_bound(source)))
    return (width, tuple(conditions))


def random_form(source, width):
    return (random_row(source, width), random_ratio(source))
