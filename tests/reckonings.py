"""Second reckonings to hold the program's answers against: plain walks over all sets of places and all hueings,
and papers looked over word by word."""

from fractions import Fraction
from functools import lru_cache
from itertools import combinations, product
from math import gcd

from samples import all_pairs, are_tied, web_of


def plain_knots(web):
    """All knots, by a walk over all sets of places."""
    sets = [some for many in range(web[0] + 1) for some in combinations(range(web[0]), many)]
    return [some for some in sets if all(are_tied(web, a, b) for a, b in combinations(some, 2))]


def plain_full_knots(web):
    knots = plain_knots(web)
    return sorted(knot for knot in knots if not any(set(knot) < set(other) for other in knots))


def plain_counted(web):
    sizes = [len(knot) for knot in plain_knots(web)]
    return [sizes.count(many) for many in range(max(sizes) + 1)]


def plain_most(web):
    return max(len(knot) for knot in plain_knots(web))


def grown_most(web):
    """The most by growing all knots place by place: for webs of many places, but of few knots."""
    ties = set(web[1])
    knots = [()]
    most = 0
    while knots:
        most = len(knots[0])
        knots = [knot + (place,) for knot in knots for place in range(max(knot, default=-1) + 1, web[0])
                 if all((other, place) in ties for other in knot)]
    return most


def remembered_most(web):
    return remembered_heaviest(web, (1,) * web[0])


def remembered_heaviest(web, weights):
    """The greatest weight of a knot by taking or leaving each place in turn, and remembering of each set of places left
    what it came to: for webs of many places and any ties."""
    near = [{b for b in range(web[0]) if are_tied(web, a, b)} for a in range(web[0])]

    @lru_cache(maxsize=None)
    def heaviest_of(left):
        if not left:
            return 0
        rest = left - {min(left)}
        return max(heaviest_of(rest), weights[min(left)] + heaviest_of(rest & near[min(left)]))

    return heaviest_of(frozenset(range(web[0])))


def plain_is_hueing(web, thing):
    if type(thing) is not tuple or len(thing) != web[0]:
        return False
    if not all(type(hue) is int and hue in range(web[0]) for hue in thing):
        return False
    return not any(thing[a] == thing[b] for a, b in web[1])


def every_hueing(n):
    """All tuples of n numbers from 0 to n - 1, right or not."""
    return list(product(range(n), repeat=n))


@lru_cache(maxsize=None)
def sharings_out(n):
    """A hueing for each way of sharing n places out among hues, whatever these are called."""
    if n == 0:
        return [()]
    return [some + (hue,) for some in sharings_out(n - 1) for hue in range(max(some, default=-1) + 2)]


def plain_fewest_hues(web, hueings):
    return min(len(set(hueing)) for hueing in hueings if plain_is_hueing(web, hueing))


def plain_along(web, order):
    """Each place's hue by trying 0, 1 and so on against all places ahead of it in the order."""
    hues = [None] * web[0]
    for at, place in enumerate(order):
        hue = 0
        while any(hues[other] == hue and are_tied(web, other, place) for other in order[:at]):
            hue += 1
        hues[place] = hue
    return tuple(hues)


@lru_cache(maxsize=None)
def plain_apart_sets(web):
    return plain_knots(web_of(web[0], set(all_pairs(web[0])) - set(web[1])))


@lru_cache(maxsize=None)
def shown_apart_sets(web):
    return {repr(apart) for apart in plain_apart_sets(web) if apart != ()}


def plain_is_fraction(thing):
    if type(thing) is not tuple or len(thing) != 2 or type(thing[0]) is not int or type(thing[1]) is not int:
        return False
    return thing[1] > 0 and gcd(thing[0], thing[1]) == 1


def plain_is_cover(web, thing):
    if type(thing) is not list or not all(type(item) is tuple and len(item) == 2 for item in thing):
        return False
    if not all(repr(places) in shown_apart_sets(web) for places, share in thing):
        return False
    if not all(plain_is_fraction(share) and share[0] > 0 for places, share in thing):
        return False
    return all(sum(Fraction(*share) for places, share in thing if place in places) >= 1 for place in range(web[0]))


def plain_are_weights(web, thing):
    if type(thing) is not tuple or len(thing) != web[0]:
        return False
    if not all(plain_is_fraction(weight) and weight[0] >= 0 for weight in thing):
        return False
    return all(sum(Fraction(*thing[place]) for place in apart) <= 1 for apart in plain_apart_sets(web))


def plain_part(web, places):
    """The part by some places, numbered anew in their order."""
    return web_of(len(places), [(i, j) for i, j in all_pairs(len(places)) if are_tied(web, places[i], places[j])])


def places_left(web, v):
    """The places but v, and those near v."""
    return [a for a in range(web[0]) if a != v], [a for a in range(web[0]) if are_tied(web, a, v)]


def begins_with(thing, word, length):
    return type(thing) is tuple and len(thing) == length and type(thing[0]) is str and thing[0] == word


def plain_is_paper(web, k, thing):
    if begins_with(thing, "few", 1):
        return web[0] < k
    if begins_with(thing, "hues", 2):
        return plain_is_hueing(web, thing[1]) and len(set(thing[1])) < k
    if not begins_with(thing, "place", 4) or k < 1 or type(thing[1]) is not int or thing[1] not in range(web[0]):
        return False
    without, near = places_left(web, thing[1])
    return (plain_is_paper(plain_part(web, without), k, thing[2])
            and plain_is_paper(plain_part(web, near), k - 1, thing[3]))


def plain_weight(weights, places):
    return sum(weights[place] for place in places)


def plain_heaviest(web, weights):
    return max(plain_weight(weights, knot) for knot in plain_knots(web))


def plain_is_heavy_paper(web, weights, w, thing):
    if begins_with(thing, "all", 1):
        return sum(weights) <= w
    if begins_with(thing, "hues", 2):
        if not plain_is_hueing(web, thing[1]):
            return False
        return sum(max(weights[place] for place in range(web[0]) if thing[1][place] == hue)
                   for hue in set(thing[1])) <= w
    if not begins_with(thing, "place", 4) or type(thing[1]) is not int or thing[1] not in range(web[0]):
        return False
    weight = weights[thing[1]]
    if weight > w:
        return False
    without, near = places_left(web, thing[1])
    return (plain_is_heavy_paper(plain_part(web, without), [weights[a] for a in without], w, thing[2])
            and plain_is_heavy_paper(plain_part(web, near), [weights[a] for a in near], w - weight, thing[3]))


def plain_below(n, pairs):
    """Of each place all that lies below it, by going down step by step as long as something new comes."""
    found = []
    for place in range(n):
        under = set()
        step = {a for a, b in pairs if b == place}
        while step - under:
            under |= step
            step = {a for a, b in pairs if b in step}
        found.append(under)
    return found


def named_by_form(near):
    """The same web with its places in an order that hangs on what is near them, so that webs that are alike but for
    the order of their places mostly come out equal."""
    form = [0] * len(near)
    for _ in range(4):
        seen = [(form[place], sorted(form[other] for other in row)) for place, row in enumerate(near)]
        form = [sorted(seen).index(one) for one in seen]
    order = sorted(range(len(near)), key=lambda place: form[place])
    return tuple(tuple(sorted(order.index(other) for other in near[place])) for place in order)


def grown_forcing(a, b):
    """The least number of places that force a knot of a or an apart set of b: all webs that have neither are grown
    place by place, until there is none."""
    webs = {()}
    n = 0
    while webs:
        grown = set()
        for near in webs:
            for code in range(2 ** n):
                row = [place for place in range(n) if code >> place & 1]
                rest = [place for place in range(n) if not code >> place & 1]
                if not (any(all(y in near[x] for x, y in combinations(some, 2)) for some in combinations(row, a - 1))
                        or any(all(y not in near[x] for x, y in combinations(some, 2))
                               for some in combinations(rest, b - 1))):
                    grown.add(named_by_form([near[place] + ((n,) if place in row else ()) for place in range(n)] + [row]))
        webs = grown
        n += 1
    return n
