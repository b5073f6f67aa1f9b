"""Pieces of a line: their web, its most, and at once a knot of so many places and a hueing of as many hues."""

from tiefold.hues import hued_along
from tiefold.webs import web_where


def web_of_pieces(pieces):
    return web_where(pieces, do_meet)


# Pieces that only touch hold no number in common.
def do_meet(piece, other):
    return piece[0] < other[1] and other[0] < piece[1]


def pieces_told(pieces):
    starts = [piece[0] for piece in pieces]
    # The pieces of a knot all lie where the last of them begins, so no other number need be looked at.
    at = max(starts, key=lambda start: len(lying_at(pieces, start)), default=0)
    knot = lying_at(pieces, at)
    # Those that begin earlier and are tied with a piece all lie where it begins, so they are fewer than the most and
    # leave one of so many hues free.
    order = sorted(range(len(pieces)), key=lambda place: starts[place])
    return (len(knot), at, knot, hued_along(web_of_pieces(pieces), order))


def lying_at(pieces, at):
    return tuple([place for place in range(len(pieces)) if pieces[place][0] <= at and at < pieces[place][1]])
