"""Webs put together: beside one another, wholly tied, put in for places, and by pairs of places."""

from tiefold.webs import are_tied, marked_ties, turned, web_where


def beside(webs):
    return put_in((len(webs), ()), webs)


def wholly_tied(webs):
    return put_in(turned((len(webs), ())), webs)


def put_in(web, webs):
    ties = marked_ties(web)
    inner_ties = [marked_ties(inner) for inner in webs]

    # A place is told by its web's number in the list, as the webs themselves may be equal.
    def are_tied_there(a, b):
        if a[0] == b[0]:
            return are_tied(inner_ties[a[0]], a[1], b[1])
        return are_tied(ties, a[0], b[0])

    return web_where(spots([inner[0] for inner in webs]), are_tied_there)


def by_pairs(web, other):
    ties = marked_ties(web)
    other_ties = marked_ties(other)

    def are_tied_there(a, b):
        return is_same_or_tied(ties, a[0], b[0]) and is_same_or_tied(other_ties, a[1], b[1])

    return web_where(spots([other[0]] * web[0]), are_tied_there)


def is_same_or_tied(ties, a, b):
    return a == b or are_tied(ties, a, b)


# Rows of so many places each, one behind the other: each place with the number of its row.
def spots(lengths):
    found = []
    for i in range(len(lengths)):
        found.extend([(i, place) for place in range(lengths[i])])
    return found
