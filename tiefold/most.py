"""The most: how many places the biggest knot of a web has, and one such knot."""

from tiefold.knots import all_near
from tiefold.webs import turned


def most(web):
    aparts = [dict([(other, True) for other in row]) for row in all_near(turned(web))]
    knot = biggest_knot(aparts, list(range(web[0])))
    return (len(knot), tuple(sorted(knot)))


# To walk all knots would take far too long where many places are all tied, so it branches only at a place that is
# apart from two others or more: with it these go, too, and without it fewer are left that keep a place from being
# taken outright.
def biggest_knot(aparts, places):
    if places == []:
        return []
    counts = [count_apart(aparts, place, places) for place in places]
    if min(counts) <= 1:
        # The one other that such a place may be apart from can give way to it in any knot, which gets no smaller.
        return knot_with(aparts, places[counts.index(min(counts))], places)
    branching = places[counts.index(max(counts))]
    with_it = knot_with(aparts, branching, places)
    without_it = biggest_knot(aparts, [other for other in places if other != branching])
    return with_it if len(with_it) >= len(without_it) else without_it


def count_apart(aparts, place, places):
    return len([other for other in places if other in aparts[place]])


def knot_with(aparts, place, places):
    return [place] + biggest_knot(aparts, [other for other in places if other != place and other not in aparts[place]])
