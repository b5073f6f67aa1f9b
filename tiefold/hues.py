"""Hues: a number for each place of a web, such that tied places have unlike ones."""

from tiefold.most import most
from tiefold.things import is_tuple_of
from tiefold.webs import all_near, is_place


def is_hueing(web, thing):
    if not is_tuple_of(thing, web[0]):
        return False
    # A web has as many hues to give as it has places, numbered alike.
    if not all([is_place(web[0], hue) for hue in thing]):
        return False
    return all([thing[tie[0]] != thing[tie[1]] for tie in web[1]])


def hued_along(web, order):
    nears = all_near(web)
    hues = {}
    for place in order:
        hues[place] = least_free([hues[other] for other in nears[place] if other in hues])
    return tuple([hues[place] for place in range(web[0])])


# Among one number more than are taken at least one is free.
def least_free(taken):
    return min([hue for hue in range(len(taken) + 1) if hue not in taken])


def fewest_hues(web):
    nears = all_near(web)
    # The places of a knot have unlike hues, so with fewer than the most none need be tried.
    many = most(web)[0]
    hueing = hued_on(nears, many, ())
    while hueing is None:
        many += 1
        hueing = hued_on(nears, many, ())
    return (many, hueing)


# The hues of the first places are given; it tells a right hueing that goes on from them, or None.
def hued_on(nears, many, hues):
    place = len(hues)
    if place == len(nears):
        return hues
    taken = [hues[other] for other in nears[place] if other < place]
    # Of the hues that no place has yet one stands for all: exchanging two of them changes nothing that matters.
    for hue in range(min(many, max(hues, default=-1) + 2)):
        if hue not in taken:
            hueing = hued_on(nears, many, hues + (hue,))
            if hueing is not None:
                return hueing
    return None
