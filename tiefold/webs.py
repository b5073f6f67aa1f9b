"""Webs: tuples (n, ties) of places 0 to n - 1 and the pairs of them that are tied."""

from tiefold.things import is_tuple_of, is_whole, pairs_of, rises

MOST_PLACES = 24


def is_web(thing):
    if not is_tuple_of(thing, 2):
        return False
    if not is_whole(thing[0]) or thing[0] < 0 or thing[0] > MOST_PLACES:
        return False
    return are_ties(thing[0], thing[1])


def are_ties(n, thing):
    if not isinstance(thing, tuple):
        return False
    # Only ties are sure to be comparable, so whether they rise is asked last.
    return all([is_tie(n, pair) for pair in thing]) and rises(thing)


def is_tie(n, thing):
    if not is_tuple_of(thing, 2):
        return False
    return is_place(n, thing[0]) and is_place(n, thing[1]) and thing[0] < thing[1]


def is_place(n, thing):
    return is_whole(thing) and 0 <= thing and thing < n


def near(web, place):
    return [other for other in range(web[0]) if are_tied(web[1], place, other)]


def all_near(web):
    marked = (web[0], marked_ties(web))
    return [near(marked, place) for place in range(web[0])]


# The ties come as a tuple or as the keys of a dict, which is quicker where many pairs are asked about.
def are_tied(ties, a, b):
    return (min(a, b), max(a, b)) in ties


def marked_ties(web):
    return dict([(tie, True) for tie in web[1]])


def turned(web):
    ties = marked_ties(web)
    return web_where(list(range(web[0])), lambda a, b: not are_tied(ties, a, b))


def part(web, places):
    return numbered_anew(web, places)


def moved(web, order):
    return numbered_anew(web, order)


# Some places that rise and all places in any order are numbered anew alike: the new place i is the old places[i].
def numbered_anew(web, places):
    ties = marked_ties(web)
    return web_where(places, lambda a, b: are_tied(ties, a, b))


# Place i of the web stands for row[i]; the pairs come rising, whatever the row holds.
def web_where(row, tied):
    pairs = pairs_of(list(range(len(row))))
    return (len(row), tuple([pair for pair in pairs if tied(row[pair[0]], row[pair[1]])]))
