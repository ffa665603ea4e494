"""Tableaux: the exact search for papers ([2.5]), by the simplex method over integers.

The conditions are scaled to integers, and each one gets a *slack*: its bound less the product of its row. The unknowns
have the numbers from 0 on, the slacks those behind them. At each time some of these variables are *free*, the others
are *basic*. A row of the tableau says: divisor * its basic variable = the sum of its entries * the free variables + its
last entry. So its last entry belongs to the point at which all free variables are 0. All entries are minors of the
scaled conditions, so the division in `exchanged` leaves no remainder, and they do not grow beyond need.

Many conditions often meet in one point, and then an exchange may move nothing. Therefore the search goes as if each
unknown might be a little below 0, and each bound of an inequality a little higher: by *nudges* that are smaller than
any number. The last entry but one is the share of the nudges in the basic variable; it only decides between last
entries that are equal. Nudges only loosen: where a row clashes in spite of them, it clashes by its last entry.
"""

from math import gcd, lcm

from kerbside.ratios import over, ratio, times


def whole_numbers(pairs):
    """Returns a factor above 0, and the ratios times this factor: integers without a common divisor."""
    common = 1
    for pair in pairs:
        common = lcm(common, pair[1])
    numbers = [n * (common // d) for n, d in pairs]
    shared = 0
    for number in numbers:
        shared = gcd(shared, number)
    if shared == 0:
        return ratio(common, 1), numbers
    return ratio(common, shared), [number // shared for number in numbers]


def exchanged(row, lead, col, divisor):
    """Returns the row after the free variable of the column became basic in the lead row."""
    pivot = lead[col]
    part = row[col]
    if pivot < 0:
        pivot, part = -pivot, -part
    result = [(pivot * entry - part * other) // divisor for entry, other in zip(row, lead)]
    result[col] = part
    return result


def nudge_of(numbers, relation, index):
    """Returns the share of the nudges in the slack of a condition with these integers."""
    if relation == "=":
        return sum(number << place for place, number in enumerate(numbers))
    # This outweighs the nudges of all its unknowns, and seldom is a multiple of what another condition has.
    return (index + 2) * sum(abs(number) << place for place, number in enumerate(numbers))


def order_of(first, second):
    """Returns -1, 0 or 1, as the first of two amounts is less, equal or greater.

    An amount is a triple: a number, its nudge, and the divisor (above 0) of both.
    """
    for place in (0, 1):
        left = first[place] * second[2]
        right = second[place] * first[2]
        if left != right:
            return -1 if left < right else 1
    return 0


class Tableau:
    """The conditions of a system, written out for some of its variables."""

    def __init__(self, system):
        self.width, conditions = system
        self.factors = []
        self.rows = []
        for index, (row, relation, bound) in enumerate(conditions):
            factor, numbers = whole_numbers((*row, bound))
            self.factors.append(factor)
            bound_number = numbers.pop()
            nudge = nudge_of(numbers, relation, index)
            self.rows.append([-number for number in numbers] + [nudge, bound_number])
        self.divisor = 1
        self.free = list(range(self.width))
        self.basic = [self.width + index for index in range(len(conditions))]
        # The slacks of equations stay 0: once free, they never become basic again.
        self.live = list(range(self.width))
        self.clash = None
        self.meet_equations([index for index, condition in enumerate(conditions) if condition[1] == "="])
        if self.clash is None:
            self.meet_bounds()

    def exchange(self, at, col):
        """Makes the free variable of the column basic in the row, and the basic one of the row free."""
        lead = self.rows[at]
        sign = 1 if lead[col] > 0 else -1
        turned = [-sign * entry for entry in lead]
        turned[col] = sign * self.divisor
        self.rows = [exchanged(row, lead, col, self.divisor) for row in self.rows]
        self.rows[at] = turned
        self.divisor = abs(lead[col])
        self.basic[at], self.free[col] = self.free[col], self.basic[at]

    def meet_equations(self, equations):
        """Makes the slacks of the equations free; notes the first row that no choice of unknowns can meet."""
        for at in equations:
            row = self.rows[at]
            sizes = [(abs(row[col]), col) for col in self.live if row[col] != 0]
            if sizes:
                # The smallest entry keeps the numbers small.
                col = min(sizes)[1]
                self.exchange(at, col)
                self.live.remove(col)
            elif row[-1] != 0:
                self.clash = at
                return

    def meet_bounds(self):
        """Lets all basic variables become at least 0, row by row; notes the first row for which it is impossible."""
        for at in range(len(self.basic)):
            while self.is_low(at):
                stop, col = self.best_exchange(at)
                if col is None:
                    self.clash = at
                    return
                self.exchange(stop, col)

    def best_exchange(self, goal):
        """Returns the row and the column whose exchange lets the goal row grow most.

        The column is None if the goal cannot grow, the row is None if nothing ends its growth. If all exchanges leave
        the goal as it is, those with the least numbers are taken: by this rule (of Bland) no tableau comes again.
        """
        rising = sorted([(self.free[col], col) for col in self.live if self.rows[goal][col] > 0])
        best = (None, None)
        most = (-1, 0, 1)
        for _, col in rising:
            stop = self.first_stop(goal, col)
            if stop is None:
                return None, col
            growth = self.rows[goal][col]
            last, nudge, cost = self.room(stop, col)
            gain = (last * growth, nudge * growth, cost)
            if order_of(gain, most) > 0:
                best = (stop, col)
                most = gain
        return best

    def first_stop(self, goal, col):
        """Returns the row that first ends the growth of the free variable of the column, or None.

        Rows that are still below 0 end nothing, except the goal itself, which need not rise above 0.
        """
        best = None
        least = None
        for at in range(len(self.basic)):
            if at == goal or (self.rows[at][col] < 0 and not self.is_low(at)):
                room = self.room(at, col)
                order = -1 if best is None else order_of(room, least)
                if order < 0 or (order == 0 and self.basic[at] < self.basic[best]):
                    best = at
                    least = room
        return best

    def is_low(self, at):
        """Tells whether the basic variable of the row is below 0."""
        return self.rows[at][-1] < 0 or (self.rows[at][-1] == 0 and self.rows[at][-2] < 0)

    def room(self, at, col):
        """Returns the amount by which the free variable of the column grows until the basic one of the row is 0."""
        row = self.rows[at]
        sign = -1 if row[col] > 0 else 1
        return sign * row[-1], sign * row[-2], abs(row[col])

    def aim(self, form):
        """Puts the form, scaled to integers, behind the other rows; returns the factor of the scaling."""
        factor, numbers = whole_numbers((*form[0], form[1]))
        goal = [0] * (self.width + 1) + [numbers[-1] * self.divisor]
        for col, name in enumerate(self.free):
            if name < self.width:
                goal[col] = numbers[name] * self.divisor
        del self.rows[len(self.basic):]
        for row, name in zip(self.rows, self.basic):
            if name < self.width and numbers[name] != 0:
                goal = [entry + numbers[name] * other for entry, other in zip(goal, row)]
        self.rows.append(goal)
        return factor

    def paper(self, form):
        """Returns a paper for the form."""
        if self.clash is not None:
            return "never", self.clash_multipliers()
        factor = self.aim(form)
        goal = len(self.basic)
        stop, col = self.best_exchange(goal)
        while stop is not None:
            self.exchange(stop, col)
            stop, col = self.best_exchange(goal)
        if col is not None:
            return "endless", self.history(), self.ray(col)
        value = over(ratio(self.rows[goal][-1], self.divisor), factor)
        shares = {name: -entry for name, entry in zip(self.free, self.rows[goal])}
        multipliers = tuple(over(share, factor) for share in self.multipliers(shares))
        return "point", value, self.history(), multipliers

    def highest(self, form):
        """Returns the greatest value of the form, None if there is none; there is a history."""
        paper = self.paper(form)
        if paper[0] == "point":
            return paper[1]
        return None

    def history(self):
        """Returns the history at which all free variables are 0."""
        return self.unknowns({name: row[-1] for name, row in zip(self.basic, self.rows)})

    def ray(self, col):
        """Returns how the unknowns change when the free variable of the column grows."""
        changes = {name: row[col] for name, row in zip(self.basic, self.rows)}
        changes[self.free[col]] = self.divisor
        return self.unknowns(changes)

    def unknowns(self, amounts):
        """Returns the ratios of the unknowns, by the dict of the amounts of some variables (0 for the others)."""
        return tuple(ratio(amounts.get(index, 0), self.divisor) for index in range(self.width))

    def multipliers(self, shares):
        """Returns the multipliers of the conditions, by the dict of the shares of some variables (0 for the others)."""
        found = []
        for index, factor in enumerate(self.factors):
            share = ratio(shares.get(self.width + index, 0), self.divisor)
            found.append(times(share, factor))
        return tuple(found)

    def clash_multipliers(self):
        """Returns multipliers by which the row of the clash shows that there is no history."""
        row = self.rows[self.clash]
        # Only the row of an equation may have a last entry above 0 here; then all its signs are turned.
        sign = 1 if row[-1] < 0 else -1
        shares = {name: -sign * entry for name, entry in zip(self.free, row)}
        shares[self.basic[self.clash]] = sign * self.divisor
        return self.multipliers(shares)
