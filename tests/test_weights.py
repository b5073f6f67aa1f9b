import unittest
from copy import deepcopy

from reckonings import (plain_heaviest, plain_is_heavy_paper, plain_knots, plain_most, plain_weight,
                        remembered_heaviest)
from samples import (PAPER_ATOMS, SIXTY, all_pairs, branched_paper, candidate_papers, clumps, halves, loose, mixed,
                     numbers, oddities, ring, shapes, spoiled, star, walked_webs, web_of, webs_up_to, whole, within)
from tiefold.hues import fewest_hues
from tiefold.knots import is_knot
from tiefold.most import most
from tiefold.weights import heaviest, is_heavy_paper, settled_by_weight
from tiefold.webs import part, turned

PATH = (3, ((0, 1), (1, 2)))
ALL = ("all",)
GREAT = 10 ** 30


def drawn_weights(n, seed):
    """Weights from 0 to 1000 without any pattern, the same ones each time."""
    drawn = numbers(100 * seed + n)
    return tuple(next(drawn) % 1001 for _ in range(n))


def sorts_of_weights(n):
    """All nothing, all alike, all the greatest, rising, falling, few unlike ones, some nothing, and drawn ones."""
    return [(0,) * n, (1,) * n, (1000,) * n, tuple(range(n)), tuple(range(n, 0, -1)),
            tuple(1 + place % 3 for place in range(n)), tuple(1000 * (place % 2) for place in range(n)),
            drawn_weights(n, 1), drawn_weights(n, 2)]


def branched(web, weights, w, pick):
    """A paper for w that has no hueing in it: it branches until the places that are left are light enough."""
    return branched_paper(web, "all", lambda places, taken: plain_weight(weights, places + taken) <= w, pick)


class Heaviest(unittest.TestCase):
    def check(self, web, weights, weight):
        """weight is the greatest weight of a knot, reckoned otherwise."""
        told = heaviest(web, weights)
        about = repr((web, weights, told))
        self.assertIs(type(told), tuple, about)
        self.assertEqual(len(told), 2, about)
        self.assertIs(type(told[0]), int, about)
        self.assertEqual(told[0], weight, about)
        self.assertIs(is_knot(web, told[1]), True, about)
        self.assertEqual(plain_weight(weights, told[1]), weight, about)

    def test_against_all_knots(self):
        for web in walked_webs(8):
            for weights in sorts_of_weights(web[0]):
                self.check(web, weights, plain_heaviest(web, weights))

    def test_all_weights_of_small_webs(self):
        for web in webs_up_to(3):
            knots = plain_knots(web)
            for code in range(4 ** web[0]):
                weights = tuple((0, 1, 2, 1000)[code // 4 ** place % 4] for place in range(web[0]))
                self.check(web, weights, max(plain_weight(weights, knot) for knot in knots))

    def test_none_and_one_place(self):
        self.assertEqual(heaviest((0, ()), ()), (0, ()))
        for weight in (1, 2, 999, 1000):
            self.assertEqual(heaviest((1, ()), (weight,)), (weight, (0,)))
        self.assertEqual(heaviest((1, ()), (0,))[0], 0)

    def test_all_tied(self):
        for weights in sorts_of_weights(24):
            self.check(whole(24), weights, sum(weights))
        self.assertEqual(heaviest(whole(24), (1000,) * 24), (24000, tuple(range(24))))
        self.assertEqual(heaviest(whole(26), (1,) * 26), (26, tuple(range(26))))

    def test_great_webs(self):
        for n in (11, 16, 24):
            for web in shapes(n):
                for weights in sorts_of_weights(n):
                    self.check(web, weights, remembered_heaviest(web, weights))

    def test_great_webs_with_most_places_tied(self):
        for web in (turned(ring(24)), turned(clumps(24)), turned(halves(24)), turned(star(24)), turned(mixed(24, 5)),
                    turned(mixed(24, 10))):
            for weights in sorts_of_weights(24):
                self.check(web, weights, remembered_heaviest(web, weights))

    def test_all_tied_but_some(self):
        pairs = all_pairs(24)
        for seed in range(6):
            weights = drawn_weights(24, seed)
            web = web_of(24, [pair for pair in pairs if pair not in ((0, 1), (1, 2), (2, 3), (0, 3), (4, 5), (5, 6))])
            self.check(web, weights, remembered_heaviest(web, weights))

    def test_a_light_place_gives_way_and_a_heavy_one_stays(self):
        # The middle of the star is apart from none, each other place from all the rest but the middle.
        self.check(star(5), (0, 1, 5, 3, 2), 5)
        self.check(star(5), (9, 1, 5, 3, 2), 14)
        apart = turned(star(4))
        self.check(apart, (6, 1, 2, 3), 6)
        self.check(apart, (5, 1, 2, 3), 6)
        self.check(apart, (7, 1, 2, 3), 7)

    def test_one_heavy_place_outweighs_many(self):
        web = web_of(6, [(a, b) for a, b in all_pairs(6) if a > 0])
        self.check(web, (1000, 200, 200, 200, 200, 199), 1000)
        self.check(web, (1000, 200, 200, 200, 200, 201), 1001)

    def test_where_all_weigh_one_it_is_the_most(self):
        for web in walked_webs(8):
            self.assertEqual(heaviest(web, (1,) * web[0])[0], most(web)[0])
            self.assertEqual(heaviest(web, (1,) * web[0])[0], plain_most(web))

    def test_parts_of_webs(self):
        for seed in range(5):
            for places in ([], [23], list(range(0, 24, 3)), list(range(12))):
                web = part(mixed(24, seed), places)
                weights = drawn_weights(web[0], seed)
                self.check(web, weights, plain_heaviest(web, weights))


class IsHeavyPaper(unittest.TestCase):
    def yes(self, web, weights, w, thing):
        self.assertIs(is_heavy_paper(web, weights, w, thing), True, repr((web, weights, w, thing))[:300])

    def no(self, web, weights, w, thing):
        self.assertIs(is_heavy_paper(web, weights, w, thing), False, repr((web, weights, w, thing))[:300])

    def told_rightly(self, web, weights, w, thing):
        wanted = plain_is_heavy_paper(web, weights, w, thing)
        self.assertIs(is_heavy_paper(web, weights, w, thing), wanted, repr((web, weights, w, thing))[:300])

    def test_all(self):
        for n in range(7):
            for web in (loose(n), whole(n), ring(n)):
                for weights in sorts_of_weights(n):
                    for w in (sum(weights), sum(weights) + 1, GREAT):
                        self.yes(web, weights, w, ALL)
                    for w in {0, sum(weights) // 2, sum(weights) - 1} - {-1, sum(weights)}:
                        self.no(web, weights, w, ALL)
        for thing in (("all", ()), ("all", ALL), ["all"], "all", ("All",), ("al",), ("all ",), (ALL,), ("few",), ("hues",),
                      ("place",), (), (None,), (True,), (0,), ("",)):
            self.no(loose(2), (1, 2), 3, thing)
            self.no((0, ()), (), 0, thing)

    def test_hues(self):
        weights = (5, 7, 3)
        for w in (11, 12, 13):
            self.assertIs(is_heavy_paper(PATH, weights, w, ("hues", (0, 1, 0))), w >= 12)
            self.assertIs(is_heavy_paper(PATH, weights, w, ("hues", (2, 0, 2))), w >= 12)
            self.no(PATH, weights, w, ("hues", (0, 0, 1)))
        for w in (14, 15, 16, GREAT):
            self.assertIs(is_heavy_paper(PATH, weights, w, ("hues", (0, 1, 2))), w >= 15)
        self.yes((0, ()), (), 0, ("hues", ()))
        self.yes((1, ()), (0,), 0, ("hues", (0,)))
        self.no((1, ()), (1,), 0, ("hues", (0,)))
        # The greatest of a hue counts wherever it stands, first, last or between.
        for weights in ((9, 1, 1), (1, 9, 1), (1, 1, 9)):
            self.no(loose(3), weights, 8, ("hues", (0, 0, 0)))
            self.yes(loose(3), weights, 9, ("hues", (0, 0, 0)))

    def test_hueings_that_are_none(self):
        for thing in ((0, 1), (0, 1, 0, 1), (0, 3, 0), (0, -1, 0), (0, True, 0), (False, 1, 0), [0, 1, 0], ((0, 1, 0),),
                      (0, None, 0), ("0", "1", "0"), "010", None, True, 0, (), [], SIXTY):
            self.no(PATH, (1, 1, 1), GREAT, ("hues", thing))
        for thing in (["hues", (0, 1, 0)], ("hues", (0, 1, 0), ()), ("hues",), ("all", (0, 1, 0)), ((0, 1, 0), "hues")):
            self.no(PATH, (1, 1, 1), GREAT, thing)

    def test_place(self):
        weights = (5, 7, 3)
        # Without the middle of the path 5 and 3 are left, near it the same.
        self.yes(PATH, weights, 12, ("place", 1, ALL, ("hues", (0, 0))))
        self.no(PATH, weights, 11, ("place", 1, ALL, ("hues", (0, 0))))
        self.no(PATH, weights, 12, ("place", 1, ALL, ALL))
        self.yes(PATH, weights, 15, ("place", 1, ALL, ALL))
        # Without the first 7 and 3 are left, tied; near it 7.
        self.yes(PATH, weights, 12, ("place", 0, ALL, ALL))
        self.no(PATH, weights, 11, ("place", 0, ALL, ALL))
        # Without the last 5 and 7 are left, tied; near it 7.
        self.yes(PATH, weights, 12, ("place", 2, ("hues", (1, 0)), ("hues", (0,))))
        self.no(PATH, weights, 12, ("place", 2, ("hues", (0, 0)), ("hues", (0,))))
        self.no(PATH, weights, 12, ("place", 2, ("hues", (1, 0)), ("hues", (0, 1))))

    def test_a_place_heavier_than_the_weight(self):
        for w in range(6):
            self.assertIs(is_heavy_paper((1, ()), (5,), w, ("place", 0, ALL, ALL)), w >= 5, w)
        self.no((2, ()), (0, 5), 4, ("place", 1, ALL, ALL))
        self.yes((2, ()), (0, 5), 5, ("place", 1, ALL, ALL))
        self.yes((2, ()), (0, 0), 0, ("place", 1, ALL, ALL))
        # Near 0 nothing is left, so only its own weight can be too great.
        self.no((2, ()), (1, 0), 0, ("place", 0, ALL, ALL))

    def test_weights_go_along_with_the_places(self):
        line = (4, ((0, 1), (1, 2), (2, 3)))
        weights = (1, 10, 100, 1000)
        self.yes(line, weights, 1100, ("place", 3, ("hues", (0, 1, 0)), ALL))
        self.no(line, weights, 1099, ("place", 3, ("hues", (0, 1, 0)), ALL))
        self.yes(line, weights, 1100, ("place", 0, ("hues", (0, 1, 0)), ALL))
        self.no(line, weights, 1099, ("place", 0, ("hues", (0, 1, 0)), ALL))
        self.yes(line, weights, 1100, ("place", 1, ("place", 2, ALL, ALL), ALL))
        self.no(line, weights, 1099, ("place", 1, ("place", 2, ALL, ALL), ALL))
        self.no(line, weights, 1100, ("place", 1, ("place", 3, ALL, ALL), ALL))

    def test_places_that_are_none(self):
        for v in (-1, 3, 4, SIXTY, -SIXTY, True, False, None, "0", "", (0,), [0], (), []):
            self.no(PATH, (1, 1, 1), GREAT, ("place", v, ALL, ALL))
        self.no((0, ()), (), GREAT, ("place", 0, ALL, ALL))

    def test_other_forms_of_place(self):
        for thing in (["place", 0, ALL, ALL], ("place", 0, ALL), ("place", 0), ("place", 0, ALL, ALL, ALL),
                      ("place", ALL, 0, ALL), ("place", ALL, ALL, 0), (0, "place", ALL, ALL), ("all", 0, ALL, ALL),
                      ("hues", 0, ALL, ALL), ("Place", 0, ALL, ALL), ("place", 0, ["all"], ALL), ("place", 0, ALL, ["all"]),
                      ("place", 0, ALL, None), ("place", 0, None, ALL), ("place", 0, "all", ALL), ("place", 0, ALL, ("few",)),
                      ("place", 0, ("few",), ALL), ("place", 0, (ALL,), ALL)):
            self.no(PATH, (1, 1, 1), GREAT, thing)
        self.yes(PATH, (1, 1, 1), GREAT, ("place", 0, ALL, ALL))

    def test_all_things_in_the_form_of_papers(self):
        for web in webs_up_to(2):
            for weights in sorts_of_weights(web[0]) + [(0, 3, 0)[:web[0]], (3, 0, 0)[:web[0]], (1, 2, 0)[:web[0]]]:
                greatest = plain_heaviest(web, weights)
                for thing in candidate_papers(web[0], "all"):
                    for w in {greatest, greatest + 1, max(greatest - 1, 0), 0}:
                        self.told_rightly(web, weights, w, thing)
        for thing in candidate_papers(3, "all"):
            self.told_rightly(PATH, (5, 7, 3), 12, thing)
            self.no(PATH, (5, 7, 3), 11, thing)

    def test_papers_without_hues(self):
        for web in webs_up_to(4) + shapes(6):
            for weights in sorts_of_weights(web[0]):
                greatest = plain_heaviest(web, weights)
                for pick in (lambda n: 0, lambda n: n - 1, lambda n: n // 2):
                    paper = branched(web, weights, greatest, pick)
                    self.yes(web, weights, greatest, paper)
                    self.yes(web, weights, greatest + 1, paper)
                    self.yes(web, weights, GREAT, paper)
                    if greatest > 0:
                        self.no(web, weights, greatest - 1, paper)
                        self.no(web, weights, 0, paper)

    def test_just_papers_among_all_that_is_a_step_away_from_one(self):
        for web in webs_up_to(3) + [ring(5), mixed(5, 3), mixed(6, 3), mixed(6, 4), clumps(6), turned(ring(6))]:
            for weights in (drawn_weights(web[0], 4), (1,) * web[0], tuple(range(web[0]))):
                w = plain_heaviest(web, weights)
                for paper in (settled_by_weight(web, weights, w)[1], branched(web, weights, w, lambda n: n - 1)):
                    for thing in spoiled(paper, PAPER_ATOMS):
                        for near_w in (max(w - 1, 0), w, w + 1):
                            self.told_rightly(web, weights, near_w, thing)

    def test_hueings_of_the_fewest_hues_and_what_is_a_step_away(self):
        for web in shapes(6):
            hueing = fewest_hues(web)[1]
            for weights in (drawn_weights(6, 4), (1,) * 6):
                for thing in spoiled(("hues", hueing)):
                    for w in (plain_heaviest(web, weights), 1000, GREAT):
                        self.told_rightly(web, weights, w, thing)

    def test_things_of_every_kind(self):
        for web, weights in (((0, ()), ()), ((1, ()), (7,)), (PATH, (0, 1, 2)), (ring(6), (1, 2, 3, 4, 5, 6))):
            for w in (0, 7, GREAT):
                for odd in oddities():
                    for thing in (odd, (odd,), ("all", odd), ("hues", odd), ("place", odd, ALL, ALL), ("place", 0, odd, ALL),
                                  ("place", 0, ALL, odd), (odd, 0, ALL, ALL), (odd, (0, 1, 0)), ("hues", (0, odd, 0)),
                                  [odd], ["all", odd], ("place", 0, ("hues", odd), ("place", odd, odd, odd))):
                        self.told_rightly(web, weights, w, thing)

    def test_things_twenty_within_one_another(self):
        for web in ((0, ()), (1, ()), loose(6), whole(6)):
            weights = tuple(range(web[0]))
            for core in (ALL, ("hues", ()), ("hues", (0,)), 0, None, ()):
                for make in (lambda x: ("place", 0, x, ALL), lambda x: ("place", 0, ALL, x), lambda x: ("place", 0, x, x),
                             lambda x: ("hues", x), lambda x: (x,), lambda x: ["place", 0, x, x]):
                    for depth in (1, 2, 4, 6, 19):
                        thing = within(depth, core, make)
                        for w in (0, 1, 5, 15, GREAT):
                            wanted = plain_is_heavy_paper(web, weights, w, thing)
                            self.assertIs(is_heavy_paper(web, weights, w, thing), wanted, (web, w, core, depth))

    def test_somewhat_beyond_six_places(self):
        for web in (whole(9), loose(9), turned(ring(9)), mixed(9, 4)):
            weights = drawn_weights(9, 3)
            w = plain_heaviest(web, weights)
            paper = settled_by_weight(web, weights, w)[1]
            self.yes(web, weights, w, paper)
            self.no(web, weights, w - 1, paper)

    def test_what_is_handed_in_stays(self):
        things = [["all"], ["hues", [0, 1, 0]], ("hues", [0, 1, 0]), ["place", 0, ["all"], ["all"]],
                  ("place", 0, ["all"], ALL), ("place", 0, ALL, ["all"])]
        for thing in oddities() + things:
            before = deepcopy(thing)
            is_heavy_paper(PATH, (1, 2, 3), 5, thing)
            self.assertEqual(repr(thing), repr(before))


class SettledByWeight(unittest.TestCase):
    def check(self, web, weights, w, greatest):
        """greatest is the greatest weight of a knot, reckoned otherwise."""
        told = settled_by_weight(web, weights, w)
        about = repr((web, weights, w, told))
        self.assertIs(type(told), tuple, about)
        self.assertEqual(len(told), 2, about)
        self.assertIs(type(told[0]), str, about)
        if w < greatest:
            self.assertEqual(told[0], "knot", about)
            self.assertIs(is_knot(web, told[1]), True, about)
            self.assertGreater(plain_weight(weights, told[1]), w, about)
        else:
            self.assertEqual(told[0], "none", about)
            self.assertIs(plain_is_heavy_paper(web, weights, w, told[1]), True, about)
            self.assertIs(is_heavy_paper(web, weights, w, told[1]), True, about)

    def check_about(self, web, weights, greatest):
        for w in (greatest - 1, greatest, greatest + 1, greatest // 2, 0, sum(weights), GREAT):
            if w >= 0:
                self.check(web, weights, w, greatest)

    def test_at_the_greatest_weight_one_less_and_one_more(self):
        for web in walked_webs(8):
            for weights in sorts_of_weights(web[0]):
                self.check_about(web, weights, plain_heaviest(web, weights))

    def test_each_weight(self):
        for web in webs_up_to(3) + shapes(5):
            weights = (3, 0, 2, 5, 1)[:web[0]]
            greatest = plain_heaviest(web, weights)
            for w in range(sum(weights) + 3):
                self.check(web, weights, w, greatest)

    def test_none_and_one_place(self):
        self.check_about((0, ()), (), 0)
        self.assertEqual(settled_by_weight((0, ()), (), 0)[0], "none")
        for weight in (0, 1, 1000):
            self.check_about((1, ()), (weight,), weight)
        self.assertEqual(settled_by_weight((1, ()), (1,), 0), ("knot", (0,)))

    def test_where_no_hueing_will_do(self):
        self.check_about(ring(5), (1,) * 5, 2)
        self.assertEqual(settled_by_weight(ring(5), (1,) * 5, 2)[1][0], "place")
        self.check_about(ring(7), (500,) * 7, 1000)
        self.assertEqual(settled_by_weight(ring(7), (500,) * 7, 1000)[1][0], "place")

    def test_webs_and_weights_drawn_by_a_rule(self):
        for n in (6, 7, 8):
            for seed in range(5, 45):
                web = mixed(n, seed)
                weights = drawn_weights(n, seed)
                self.check_about(web, weights, plain_heaviest(web, weights))

    def test_somewhat_beyond_eight_places(self):
        for n in (10, 12):
            for web in shapes(n):
                weights = drawn_weights(n, 6)
                self.check_about(web, weights, plain_heaviest(web, weights))

    def test_parts_of_webs(self):
        for seed in range(5):
            for places in ([], [23], list(range(0, 24, 3)), list(range(8))):
                web = part(mixed(24, seed), places)
                weights = drawn_weights(web[0], seed)
                self.check_about(web, weights, plain_heaviest(web, weights))


if __name__ == "__main__":
    unittest.main()
