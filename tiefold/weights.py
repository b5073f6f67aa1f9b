"""Weights: the heaviest knot of a web whose places weigh something, and papers that none is heavier."""

from tiefold.most import heaviest_knot, weighed
from tiefold.papers import bound, is_bound


def heaviest(web, weights):
    knot = heaviest_knot(web, weights)
    return (weighed(weights, knot), knot)


def is_heavy_paper(web, weights, w, thing):
    return is_bound("all", web, weights, w, thing)


def settled_by_weight(web, weights, w):
    told = heaviest(web, weights)
    if told[0] > w:
        return ("knot", told[1])
    return ("none", bound("all", web, weights, w))
