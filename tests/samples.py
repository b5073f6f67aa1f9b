"""Webs and other things to ask about."""

from itertools import combinations, product

SIXTY = int("7" * 60)


def all_pairs(n):
    return list(combinations(range(n), 2))


def web_of(n, pairs):
    return (n, tuple(sorted(set(pairs))))


def loose(n):
    return web_of(n, [])


def whole(n):
    return web_of(n, all_pairs(n))


def ring(n):
    return web_of(n, [tuple(sorted((i, (i + 1) % n))) for i in range(n) if n > 1])


def halves(n):
    return web_of(n, [(a, b) for a, b in all_pairs(n) if a % 2 != b % 2])


def star(n):
    return web_of(n, [(0, b) for b in range(1, n)])


def clumps(n):
    """A web in parts: threes of places all tied, and no tie from one part to another."""
    return web_of(n, [(a, b) for a, b in all_pairs(n) if a // 3 == b // 3])


def numbers(seed):
    """Numbers without any pattern, the same ones each time."""
    state = seed * 7907 + 11
    while True:
        state = (state * 1103515245 + 12345) % 2147483648
        yield state // 65536


def mixed(n, seed):
    """A web without any pattern, the same one each time."""
    pairs = []
    state = seed * 7919 + n
    for pair in all_pairs(n):
        state = (state * 1103515245 + 12345) % 2147483648
        if state // 65536 % 8 < 2 + seed % 5:
            pairs.append(pair)
    return web_of(n, pairs)


def shapes(n):
    """Webs of n places: without ties, all tied, rings, parts and others."""
    return [loose(n), whole(n), ring(n), halves(n), star(n), clumps(n)] + [mixed(n, seed) for seed in range(5)]


def all_webs(n):
    """Each web of n places."""
    pairs = all_pairs(n)
    return [web_of(n, some) for many in range(len(pairs) + 1) for some in combinations(pairs, many)]


def webs_up_to(n):
    return [web for many in range(n + 1) for web in all_webs(many)]


def walked_webs(most_places):
    """All webs of at most five places and others of at most so many, few enough to walk over all sets of places."""
    shaped = [web for n in range(most_places + 1) for web in shapes(n)]
    return webs_up_to(5) + shaped + [(n, tuple(sorted(set(all_pairs(n)) - set(ties)))) for n, ties in shaped]


def are_tied(web, a, b):
    return (a, b) in web[1] or (b, a) in web[1]


def within(depth, core, make):
    for _ in range(depth):
        core = make(core)
    return core


def oddities():
    """Things of every kind that "of anything" speaks of, twenty within one another at most."""
    deep = [within(19, core, make)
            for core in ((), [], 0, True, None, "0", SIXTY, (0, 1), (1, ()))
            for make in (lambda x: (x,), lambda x: [x], lambda x: (2, x), lambda x: (x, 1), lambda x: [x, x][:1])]
    return deep + [
        None, True, False, -1, 0, 1, 2, 24, 25, SIXTY, -SIXTY, "", "0", "01", "web", "(0, ())",
        [], [0], [0, 1], [0, []], [2, [[0, 1]]], [0, ()], [None], ["0"], [True],
        ("",), ("0",), ("0", "1"), (None,), (None, None), (SIXTY,), (-SIXTY,), (0, SIXTY), (SIXTY, ()),
        (-SIXTY, ()), ((),), ([],), ((0,),), ((0, 1),), (0, "1"), ("0", 1), (0, None), (None, 0), ((0, 1), 2),
        (0, (1,)), (0, [1]), (0, 1, None), (0, 1, "2"), (0, 1, ()), "a" * 1000,
    ]


ATOMS = (-1, 0, 1, 2, True, False, None, "", "0", "01", SIXTY, -SIXTY, (), [], (0, 1), [0, 1], (0,), ((0, 1),))


# What stands in papers of either sort, to be put where something else belongs.
PAPER_ATOMS = ATOMS + ("few", "hues", "place", "all", "Few", "few ", ("few",), ("all",), ("hues", ()), ("hues", (0,)),
                       ("hues", (0, 1)), ("place", 0, ("few",), ("few",)), ["few"], ("few", "few"))


def spoiled(thing, atoms=ATOMS):
    """All things that are one small step away from a thing: another value somewhere within, a tuple made
    a list or the other way about, one part fewer or more, one twice, two exchanged."""
    found = list(atoms)
    if not isinstance(thing, (tuple, list)):
        return found
    kind = type(thing)
    parts = list(thing)
    found.append(tuple(parts) if kind is list else list(parts))
    for i in range(len(parts)):
        found.append(kind(parts[:i] + parts[i + 1:]))
        found.append(kind(parts[:i + 1] + parts[i:]))
        for other in spoiled(parts[i], atoms):
            found.append(kind(parts[:i] + [other] + parts[i + 1:]))
        for j in range(i):
            swapped = list(parts)
            swapped[i], swapped[j] = parts[j], parts[i]
            found.append(kind(swapped))
    for atom in atoms:
        found.append(kind(parts + [atom]))
    return found


def candidate_papers(n, plainest):
    """All things in the form of papers of a web of n places, right or not: each hueing, each place, and behind it
    each such thing for one place less, or for fewer where they can be told apart."""
    found = [(plainest,)] + [("hues", hueing) for hueing in product(range(max(n, 1)), repeat=n)]
    if n > 0:
        less = candidate_papers(n - 1, plainest)
        fewer = sorted({other for many in range(n) for other in candidate_papers(many, plainest)}, key=repr)
        found += [("place", v, paper, other) for v in range(n) for paper in less for other in fewer]
    return found


def branched_paper(web, plainest, is_done, pick):
    """A paper that branches at the place pick(how many are left) down to where is_done(places, taken) tells that the
    plainest one will do: places are those left, taken those gone with, both as the whole web numbers them."""
    def of_part(places, taken):
        if is_done(places, taken):
            return (plainest,)
        v = places[pick(len(places))]
        without = [a for a in places if a != v]
        near = [a for a in places if are_tied(web, a, v)]
        return ("place", places.index(v), of_part(without, taken), of_part(near, taken + [v]))
    return of_part(list(range(web[0])), [])
