"""Orders: the web of what lies below what, its longest chain, and a hueing of as many hues."""

from tiefold.errors import Round
from tiefold.hues import hued_along
from tiefold.most import most
from tiefold.webs import web_where


def web_of_order(n, pairs):
    return web_of_below(n, all_below(n, pairs))


def chains_told(n, pairs):
    below = all_below(n, pairs)
    web = web_of_below(n, below)
    # A place has more places below it than any of these has, so from the fewest on it goes upwards. Along such an
    # order a place's hue is how many steps the longest chain up to it has: as many hues come as a chain has places.
    ranks = [count_below(n, below, place) for place in range(n)]
    hueing = hued_along(web, sorted(range(n), key=lambda place: ranks[place]))
    told = most(web)
    return (told[0], sorted(told[1], key=lambda place: ranks[place]), hueing)


def count_below(n, below, place):
    return len([other for other in range(n) if (other, place) in below])


def web_of_below(n, below):
    return web_where(list(range(n)), lambda a, b: (a, b) in below or (b, a) in below)


# All pairs, also those over places between: each place in its turn joins what lies below it to what lies above it.
def all_below(n, pairs):
    below = dict([(pair, True) for pair in pairs])
    for between in range(n):
        for a in range(n):
            for b in range(n):
                if (a, between) in below and (between, b) in below:
                    below[(a, b)] = True
    if any([(place, place) in below for place in range(n)]):
        raise Round("a place lies below itself")
    return below
