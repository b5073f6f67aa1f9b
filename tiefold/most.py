"""The most: how many places the biggest knot of a web has, and one such knot."""

from tiefold.webs import all_near, turned


def most(web):
    knot = heaviest_knot(web, (1,) * web[0])
    return (len(knot), knot)


def heaviest_knot(web, weights):
    aparts = [dict([(other, True) for other in row]) for row in all_near(turned(web))]
    return tuple(sorted(heaviest_among(aparts, weights, list(range(web[0])))))


# To walk all knots would take far too long where many places are all tied, so it branches only where no place
# outweighs all those together that it is apart from: these could give way to it in any knot, which gets no lighter.
def heaviest_among(aparts, weights, places):
    if places == []:
        return []
    rows = [apart_among(aparts, place, places) for place in places]
    for i in range(len(places)):
        if weighed(weights, rows[i]) <= weights[places[i]]:
            return heaviest_with(aparts, weights, places[i], places)
    # With the place that is apart from the most of them the most others go, too.
    counts = [len(row) for row in rows]
    branching = places[counts.index(max(counts))]
    with_it = heaviest_with(aparts, weights, branching, places)
    without_it = heaviest_among(aparts, weights, [other for other in places if other != branching])
    return with_it if weighed(weights, with_it) >= weighed(weights, without_it) else without_it


def apart_among(aparts, place, places):
    return [other for other in places if other in aparts[place]]


def heaviest_with(aparts, weights, place, places):
    others = [other for other in places if other != place and other not in aparts[place]]
    return [place] + heaviest_among(aparts, weights, others)


def weighed(weights, places):
    return sum([weights[place] for place in places])
