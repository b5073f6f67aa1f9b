"""Papers: that a web has no knot of so many places, told so that anybody may look it over."""

from tiefold.hues import hued_along, is_hueing
from tiefold.most import most, weighed
from tiefold.things import is_tuple_of
from tiefold.webs import all_near, is_place, near, part


def is_paper(web, k, thing):
    return is_bound("few", web, ones(web), k - 1, thing)


def settled(web, k):
    told = most(web)
    if told[0] >= k:
        return ("knot", told[1][:k])
    return ("none", paper_against(web, k))


# The web must have no knot of k places.
def paper_against(web, k):
    return bound("few", web, ones(web), k - 1)


# Where each place weighs 1, that there is no knot of k places is that none weighs more than k - 1. So one form
# serves for both sorts of papers; only the word for the plainest of them, where all places together are too
# light, is another one.
def ones(web):
    return (1,) * web[0]


def is_bound(plainest, web, weights, w, thing):
    if is_tuple_of(thing, 1):
        return thing[0] == plainest and sum(weights) <= w
    if is_tuple_of(thing, 2):
        return thing[0] == "hues" and is_hueing(web, thing[1]) and weighed_by_hues(weights, thing[1]) <= w
    if not is_tuple_of(thing, 4) or thing[0] != "place":
        return False
    v = thing[1]
    if not is_place(web[0], v) or weights[v] > w:
        return False
    if not is_bound_of_part(plainest, web, weights, places_without(web, v), w, thing[2]):
        return False
    return is_bound_of_part(plainest, web, weights, near(web, v), w - weights[v], thing[3])


def is_bound_of_part(plainest, web, weights, places, w, thing):
    return is_bound(plainest, part(web, places), weights_along(weights, places), w, thing)


# A knot has at most one place of each hue, so it weighs no more than this.
def weighed_by_hues(weights, hueing):
    heaviest = {}
    for place in range(len(hueing)):
        heaviest[hueing[place]] = max(weights[place], heaviest.get(hueing[place], 0))
    return sum(heaviest.values())


def places_without(web, v):
    return [place for place in range(web[0]) if place != v]


def weights_along(weights, places):
    return tuple([weights[place] for place in places])


# No knot of the web may weigh more than w: else it would branch down to a web of no places and find no paper.
def bound(plainest, web, weights, w):
    if sum(weights) <= w:
        return (plainest,)
    hueing = heavy_first(web, weights)
    if weighed_by_hues(weights, hueing) <= w:
        return ("hues", hueing)
    # Without the places of the last hues the others are few enough, so it is these that are left out.
    v = hueing.index(max(hueing))
    return ("place", v, bound_of_part(plainest, web, weights, places_without(web, v), w),
            bound_of_part(plainest, web, weights, near(web, v), w - weights[v]))


def bound_of_part(plainest, web, weights, places, w):
    return bound(plainest, part(web, places), weights_along(weights, places), w)


# Heavy places that are apart share a hue that way, and those near many others find it while it is still free.
def heavy_first(web, weights):
    nears = all_near(web)
    return hued_along(web, sorted(range(web[0]), key=lambda place: (-weights[place], -len(nears[place]))))
