"""What is forced: how many ties a web may have without a knot of so many, and how many places without either."""

from tiefold.most import most
from tiefold.webs import turned, web_where


def even_web(n, k):
    return web_where(list(range(n)), lambda i, j: i % k != j % k)


def most_ties(n, k):
    return len(even_web(n, k)[1])


def forcing(a, b):
    if a > b:
        told = forcing(b, a)
        return (told[0], turned(told[1]))
    many = enough_places(a, b)
    return (many, web_without(a, b, many - 1))


# So many places always force one or the other: any place has enough others near it to force a knot of one less among
# them, or else enough apart from it. Where both these numbers are even, one place fewer will do: else each of an odd
# number of places would have an odd number of others near it, but ties have two ends each. That so many are needed,
# too, is shown by the web that has neither.
def enough_places(a, b):
    if a == 1 or b == 1:
        return 1
    enough_near = enough_places(a - 1, b)
    enough_apart = enough_places(a, b - 1)
    if enough_near % 2 == 0 and enough_apart % 2 == 0:
        return enough_near + enough_apart - 1
    return enough_near + enough_apart


# Of all webs those on a ring are few, and within what is asked one of them will do.
def web_without(a, b, n):
    for steps in all_choices(list(range(1, n // 2 + 1))):
        web = web_on_ring(n, steps)
        if most(web)[0] < a and most(turned(web))[0] < b:
            return web
    return None


def all_choices(row):
    choices = [[]]
    for thing in row:
        choices = choices + [choice + [thing] for choice in choices]
    return choices


# Places are tied where, the shorter way round, just so many steps lie from one to the other.
def web_on_ring(n, steps):
    return web_where(list(range(n)), lambda i, j: min(j - i, n - j + i) in steps)
