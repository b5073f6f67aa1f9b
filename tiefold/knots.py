"""Knots: rising tuples of places of a web, each two of them tied."""

from tiefold.things import pairs_of, rises
from tiefold.webs import all_near, is_place, marked_ties


def is_knot(web, thing):
    if not isinstance(thing, tuple):
        return False
    # Only places are sure to be comparable, so whether they rise is asked behind that; and it is asked ahead of
    # the ties, so that a long row of places is turned away before its many pairs are made.
    if not all([is_place(web[0], place) for place in thing]) or not rises(thing):
        return False
    ties = marked_ties(web)
    return all([pair in ties for pair in pairs_of(thing)])


def full_knots(web):
    nears = all_near(web)
    return sorted([knot for knot in all_knots(nears) if is_full(nears, knot)])


def counted(web):
    knots = all_knots(all_near(web))
    counts = [0] * (1 + max([len(knot) for knot in knots]))
    for knot in knots:
        counts[len(knot)] += 1
    return counts


# Each knot comes once: from the one without its greatest place, when that place's turn comes.
def all_knots(nears):
    knots = [()]
    for place in range(len(nears)):
        knots = knots + [knot + (place,) for knot in knots if is_near_all(nears, place, knot)]
    return knots


def is_near_all(nears, place, knot):
    return all([other in nears[place] for other in knot])


# No place is near itself, so the knot's own places never count as further ones.
def is_full(nears, knot):
    return not any([is_near_all(nears, place, knot) for place in range(len(nears))])
