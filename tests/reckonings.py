"""Second reckonings to hold the program's answers against: plain walks over all sets of places and all hueings."""

from fractions import Fraction
from functools import lru_cache
from itertools import combinations, product
from math import gcd

from samples import all_pairs, are_tied, web_of


def plain_knots(web):
    """All knots, by a walk over all sets of places."""
    sets = [some for many in range(web[0] + 1) for some in combinations(range(web[0]), many)]
    return [some for some in sets if all(are_tied(web, a, b) for a, b in combinations(some, 2))]


def plain_full_knots(web):
    knots = plain_knots(web)
    return sorted(knot for knot in knots if not any(set(knot) < set(other) for other in knots))


def plain_counted(web):
    sizes = [len(knot) for knot in plain_knots(web)]
    return [sizes.count(many) for many in range(max(sizes) + 1)]


def plain_most(web):
    return max(len(knot) for knot in plain_knots(web))


def grown_most(web):
    """The most by growing all knots place by place: for webs of many places, but of few knots."""
    ties = set(web[1])
    knots = [()]
    most = 0
    while knots:
        most = len(knots[0])
        knots = [knot + (place,) for knot in knots for place in range(max(knot, default=-1) + 1, web[0])
                 if all((other, place) in ties for other in knot)]
    return most


def remembered_most(web):
    """The most by taking or leaving each place in turn, and remembering of each set of places left what it came to:
    for webs of many places and any ties."""
    near = [{b for b in range(web[0]) if are_tied(web, a, b)} for a in range(web[0])]

    @lru_cache(maxsize=None)
    def most_of(left):
        if not left:
            return 0
        rest = left - {min(left)}
        return max(most_of(rest), 1 + most_of(rest & near[min(left)]))

    return most_of(frozenset(range(web[0])))


def plain_is_hueing(web, thing):
    if type(thing) is not tuple or len(thing) != web[0]:
        return False
    if not all(type(hue) is int and hue in range(web[0]) for hue in thing):
        return False
    return not any(thing[a] == thing[b] for a, b in web[1])


def every_hueing(n):
    """All tuples of n numbers from 0 to n - 1, right or not."""
    return list(product(range(n), repeat=n))


@lru_cache(maxsize=None)
def sharings_out(n):
    """A hueing for each way of sharing n places out among hues, whatever these are called."""
    if n == 0:
        return [()]
    return [some + (hue,) for some in sharings_out(n - 1) for hue in range(max(some, default=-1) + 2)]


def plain_fewest_hues(web, hueings):
    return min(len(set(hueing)) for hueing in hueings if plain_is_hueing(web, hueing))


def plain_along(web, order):
    """Each place's hue by trying 0, 1 and so on against all places ahead of it in the order."""
    hues = [None] * web[0]
    for at, place in enumerate(order):
        hue = 0
        while any(hues[other] == hue and are_tied(web, other, place) for other in order[:at]):
            hue += 1
        hues[place] = hue
    return tuple(hues)


@lru_cache(maxsize=None)
def plain_apart_sets(web):
    return plain_knots(web_of(web[0], set(all_pairs(web[0])) - set(web[1])))


@lru_cache(maxsize=None)
def shown_apart_sets(web):
    return {repr(apart) for apart in plain_apart_sets(web) if apart != ()}


def plain_is_fraction(thing):
    if type(thing) is not tuple or len(thing) != 2 or type(thing[0]) is not int or type(thing[1]) is not int:
        return False
    return thing[1] > 0 and gcd(thing[0], thing[1]) == 1


def plain_is_cover(web, thing):
    if type(thing) is not list or not all(type(item) is tuple and len(item) == 2 for item in thing):
        return False
    if not all(repr(places) in shown_apart_sets(web) for places, share in thing):
        return False
    if not all(plain_is_fraction(share) and share[0] > 0 for places, share in thing):
        return False
    return all(sum(Fraction(*share) for places, share in thing if place in places) >= 1 for place in range(web[0]))


def plain_are_weights(web, thing):
    if type(thing) is not tuple or len(thing) != web[0]:
        return False
    if not all(plain_is_fraction(weight) and weight[0] >= 0 for weight in thing):
        return False
    return all(sum(Fraction(*thing[place]) for place in apart) <= 1 for apart in plain_apart_sets(web))
