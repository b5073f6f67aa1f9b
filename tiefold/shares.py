"""Shares: covers of a web by apart sets, weights of its places, and the worth at which the two meet."""

from tiefold.knots import full_knots, is_knot
from tiefold.things import is_tuple_of, is_whole
from tiefold.webs import turned


def is_cover(web, thing):
    if not isinstance(thing, list):
        return False
    turned_web = turned(web)
    if not all([is_share(turned_web, item) for item in thing]):
        return False
    return all([is_covered(thing, place) for place in range(web[0])])


def is_share(turned_web, thing):
    if not is_tuple_of(thing, 2):
        return False
    if not is_knot(turned_web, thing[0]) or thing[0] == ():
        return False
    return is_fraction(thing[1]) and thing[1][0] > 0


def is_covered(cover, place):
    together = added([item[1] for item in cover if place in item[0]])
    return together[0] >= together[1]


def are_weights(web, thing):
    if not is_tuple_of(thing, web[0]):
        return False
    if not all([is_fraction(weight) and weight[0] >= 0 for weight in thing]):
        return False
    # As no weight is below 0, an apart set comes to no more than a full one that it lies in.
    return all([is_light(thing, apart) for apart in full_knots(turned(web))])


def is_light(weights, apart):
    together = added([weights[place] for place in apart])
    return together[0] <= together[1]


def is_fraction(thing):
    if not is_tuple_of(thing, 2) or not is_whole(thing[0]) or not is_whole(thing[1]):
        return False
    return thing[1] >= 1 and greatest_divisor(thing[0], thing[1]) == 1


def greatest_divisor(a, b):
    while b != 0:
        rest = a % b
        a = b
        b = rest
    return abs(a)


def lowest_terms(top, bottom):
    divisor = greatest_divisor(top, bottom)
    return (top // divisor, bottom // divisor)


# The sum is not in lowest terms: who only compares it is spared the search for a divisor of great numbers.
def added(fractions):
    top = 0
    bottom = 1
    for fraction in fractions:
        top = top * fraction[1] + fraction[0] * bottom
        bottom = bottom * fraction[1]
    return (top, bottom)


def shares(web):
    aparts = full_knots(turned(web))
    table = Table(web[0], aparts)
    table.settle()
    cover = [(aparts[i], table.share(i)) for i in range(len(aparts))]
    weights = tuple([table.weight(place) for place in range(web[0])])
    return (table.worth(), [item for item in cover if item[1][0] > 0], weights)


# The weights of the greatest worth are found by exchanges, as in the simplex method. There is a row for each full
# apart set: its weights and the room that they leave come to 1; and a last row: the worth less all weights is 0.
# The columns are the weights of the places, the rooms of the sets, and what a row comes to. Each set's row has one
# unknown of its own, its holder; the unknowns that hold no row are 0. At the end the last row has, in the columns
# of the rooms, the shares of the cover.
class Table:
    def __init__(self, n, aparts):
        many = len(aparts)
        self.n = n
        self.rows = []
        for i in range(many):
            weights = [1 if place in aparts[i] else 0 for place in range(n)]
            self.rows.append(weights + [1 if j == i else 0 for j in range(many)] + [1])
        self.rows.append([-1] * n + [0] * (many + 1))
        self.holders = [n + i for i in range(many)]
        # All numbers of the rows are over this one, so that they stay whole.
        self.scale = 1

    def settle(self):
        column = self.gaining_column()
        while column is not None:
            self.exchange(self.tightest_row(column), column)
            column = self.gaining_column()

    # The first such column, and below the first of the holders, so that the exchanges never go round (Bland's rule).
    def gaining_column(self):
        columns = [column for column in range(len(self.rows[-1]) - 1) if self.rows[-1][column] < 0]
        return min(columns, default=None)

    # There always is one, as each place lies in a full apart set, which bounds its weight.
    def tightest_row(self, column):
        tightest = None
        for i in range(len(self.holders)):
            if self.rows[i][column] > 0 and (tightest is None or self.is_tighter(i, tightest, column)):
                tightest = i
        return tightest

    def is_tighter(self, i, j, column):
        bound = self.rows[i][-1] * self.rows[j][column]
        other = self.rows[j][-1] * self.rows[i][column]
        return bound < other or (bound == other and self.holders[i] < self.holders[j])

    def exchange(self, i, column):
        kept = self.rows[i]
        self.rows = [kept if k == i else self.cleared(self.rows[k], kept, column) for k in range(len(self.rows))]
        self.holders[i] = column
        self.scale = kept[column]

    # The row over the new scale, 0 in the column; the old scale goes into each of its numbers without a rest.
    def cleared(self, row, kept, column):
        return [(row[j] * kept[column] - row[column] * kept[j]) // self.scale for j in range(len(row))]

    def worth(self):
        return lowest_terms(self.rows[-1][-1], self.scale)

    def share(self, i):
        return lowest_terms(self.rows[-1][self.n + i], self.scale)

    def weight(self, place):
        if place not in self.holders:
            return (0, 1)
        return lowest_terms(self.rows[self.holders.index(place)][-1], self.scale)
