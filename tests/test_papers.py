import unittest
from copy import deepcopy

from reckonings import plain_is_paper, plain_knots, plain_most, remembered_most
from samples import (PAPER_ATOMS, SIXTY, all_pairs, branched_paper, candidate_papers, clumps, halves, loose, mixed,
                     oddities, ring, shapes, spoiled, star, walked_webs, web_of, webs_up_to, whole, within)
from tiefold.hues import fewest_hues
from tiefold.knots import is_knot
from tiefold.most import most
from tiefold.papers import is_paper, settled
from tiefold.webs import part, turned

PATH = (3, ((0, 1), (1, 2)))
FEW = ("few",)
GREAT = 10 ** 30

# A ring of five, each place of which is tied with a sixth one: the most is 3, the fewest hues are 4.
HUB = web_of(6, list(ring(5)[1]) + [(place, 5) for place in range(5)])


def branched(web, k, pick):
    """A paper for k that has no hueing in it: it branches until too few places are left."""
    return branched_paper(web, "few", lambda places, taken: len(places) < k - len(taken), pick)


class IsPaper(unittest.TestCase):
    def yes(self, web, k, thing):
        self.assertIs(is_paper(web, k, thing), True, repr((web, k, thing))[:300])

    def no(self, web, k, thing):
        self.assertIs(is_paper(web, k, thing), False, repr((web, k, thing))[:300])

    def told_rightly(self, web, k, thing):
        self.assertIs(is_paper(web, k, thing), plain_is_paper(web, k, thing), repr((web, k, thing))[:300])

    def test_few(self):
        for n in range(9):
            for web in (loose(n), whole(n), ring(n)):
                for k in range(n + 1):
                    self.no(web, k, FEW)
                for k in (n + 1, n + 2, GREAT):
                    self.yes(web, k, FEW)
        for thing in (("few", ()), ("few", FEW), ("few", None), ("few", 0), ["few"], "few", ("Few",), ("fe",), ("few ",),
                      (["few"],), (FEW,), ("all",), ("hues",), ("place",), (), ("",), (None,), (True,), (0,)):
            self.no(loose(2), 3, thing)
            self.no((0, ()), 1, thing)

    def test_hues(self):
        for k in range(6):
            wanted = k >= 3
            self.assertIs(is_paper(PATH, k, ("hues", (0, 1, 0))), wanted, k)
            self.assertIs(is_paper(PATH, k, ("hues", (2, 0, 2))), wanted, k)
            self.assertIs(is_paper(PATH, k, ("hues", (0, 1, 2))), k >= 4, k)
            self.no(PATH, k, ("hues", (0, 0, 1)))
        self.yes(PATH, GREAT, ("hues", (0, 1, 0)))
        self.no((0, ()), 0, ("hues", ()))
        self.yes((0, ()), 1, ("hues", ()))
        self.no((1, ()), 1, ("hues", (0,)))
        self.yes((1, ()), 2, ("hues", (0,)))
        self.no(loose(3), 1, ("hues", (0, 0, 0)))
        self.yes(loose(3), 2, ("hues", (0, 0, 0)))
        self.no(loose(3), 2, ("hues", (0, 0, 1)))

    def test_hueings_that_are_none(self):
        for thing in ((0, 1), (0, 1, 0, 1), (0, 3, 0), (0, -1, 0), (0, True, 0), (False, 1, 0), [0, 1, 0], ([0, 1, 0],),
                      ((0, 1, 0),), (0, None, 0), ("0", "1", "0"), "010", None, True, 0, (), [], SIXTY, (SIXTY, 1, 0)):
            self.no(PATH, 3, ("hues", thing))
            self.no(PATH, GREAT, ("hues", thing))
        for thing in (["hues", (0, 1, 0)], ("hues", (0, 1, 0), ()), ("hues",), ("hues", 0, 1, 0), ("few", (0, 1, 0)),
                      ("hue", (0, 1, 0)), ((0, 1, 0), "hues"), ("place", (0, 1, 0)), (("hues", (0, 1, 0)),)):
            self.no(PATH, 3, thing)

    def test_place(self):
        # Without the middle of the path two places are left that are apart, near it the same two.
        apart = ("hues", (0, 0))
        self.yes(PATH, 3, ("place", 1, apart, ("hues", (1, 1))))
        self.yes(PATH, 3, ("place", 1, FEW, apart))
        self.no(PATH, 3, ("place", 1, FEW, FEW))
        self.no(PATH, 2, ("place", 1, apart, apart))
        self.yes(PATH, 4, ("place", 1, FEW, FEW))
        # Without an end two tied places are left, near it one.
        self.yes(PATH, 3, ("place", 0, FEW, FEW))
        self.yes(PATH, 3, ("place", 2, ("hues", (0, 1)), ("hues", (0,))))
        self.no(PATH, 3, ("place", 0, apart, FEW))
        self.no(PATH, 3, ("place", 0, FEW, ("hues", (0, 0))))

    def test_the_part_without_a_place_and_that_near_it_are_not_exchanged(self):
        web = (4, ((0, 1), (1, 2), (1, 3), (2, 3)))
        self.no(web, 4, ("place", 1, ("hues", (0, 1, 2)), ("hues", (2, 0, 1))))
        right = ("place", 1, ("hues", (0, 1, 2)), ("hues", (1, 0, 1)))
        self.yes(web, 4, right)
        self.no(web, 3, right)
        self.no(web, 4, ("place", 1, right[3], right[2]))
        self.yes(web, 4, ("place", 0, ("hues", (0, 1, 2)), FEW))
        self.no(web, 4, ("place", 0, FEW, ("hues", (0, 1, 2))))

    def test_places_are_numbered_anew(self):
        # Without 0 the path goes on over what were 1, 2 and 3: their hues stand in that order.
        line = (4, ((0, 1), (1, 2), (2, 3)))
        self.yes(line, 3, ("place", 0, ("hues", (0, 1, 0)), ("hues", (0,))))
        self.no(line, 3, ("place", 0, ("hues", (0, 1, 1)), ("hues", (0,))))
        self.no(line, 3, ("place", 0, ("hues", (0, 1, 0, 1)), ("hues", (0,))))
        self.yes(line, 3, ("place", 0, ("place", 1, ("hues", (0, 0)), ("hues", (0, 0))), FEW))
        self.no(line, 3, ("place", 0, ("place", 3, FEW, FEW), FEW))
        self.yes(line, 3, ("place", 0, ("place", 2, FEW, FEW), FEW))

    def test_one_less_is_asked_of_the_part_near_a_place(self):
        for n in range(1, 9):
            paper = ("place", 0, FEW, FEW)
            self.yes(whole(n), n + 1, paper)
            self.no(whole(n), n, paper)
        # Of one place near another: with k = 2 a part of one place is to have no knot of one.
        self.no((2, ((0, 1),)), 2, ("place", 0, FEW, FEW))
        self.yes((2, ((0, 1),)), 3, ("place", 0, FEW, FEW))
        self.yes((2, ()), 2, ("place", 0, FEW, FEW))
        self.no((2, ()), 2, ("place", 0, ("hues", (0, 0)), FEW))

    def test_no_paper_for_0_nor_for_1_where_there_are_places(self):
        for web in webs_up_to(3):
            for thing in candidate_papers(min(web[0], 2), "few"):
                self.no(web, 0, thing)
                self.assertIs(is_paper(web, 1, thing), web[0] == 0 and thing in (FEW, ("hues", ())), repr(thing))

    def test_places_that_are_none(self):
        for v in (-1, 3, 4, SIXTY, -SIXTY, True, False, None, "0", "", (0,), [0], (), []):
            self.no(PATH, 3, ("place", v, ("hues", (0, 1)), FEW))
            self.no(PATH, GREAT, ("place", v, FEW, FEW))
        self.no((0, ()), 1, ("place", 0, FEW, FEW))
        self.no((0, ()), GREAT, ("place", 0, FEW, FEW))

    def test_other_forms_of_place(self):
        for thing in (["place", 0, FEW, FEW], ("place", 0, FEW), ("place", 0), ("place", 0, FEW, FEW, FEW),
                      ("place", FEW, 0, FEW), ("place", FEW, FEW, 0), (0, "place", FEW, FEW), ("few", 0, FEW, FEW),
                      ("hues", 0, FEW, FEW), ("Place", 0, FEW, FEW), ("place", 0, ["few"], FEW),
                      ("place", 0, FEW, ["few"]), ("place", 0, FEW, None), ("place", 0, None, FEW),
                      ("place", 0, "few", FEW), ("place", 0, FEW, "few"), ("place", 0, (FEW,), FEW), (True, 0, FEW, FEW)):
            self.no(PATH, GREAT, thing)
        self.yes(PATH, GREAT, ("place", 0, FEW, FEW))

    def test_all_things_in_the_form_of_papers(self):
        for web in webs_up_to(2):
            for thing in candidate_papers(web[0], "few"):
                for k in range(5):
                    self.told_rightly(web, k, thing)
        for thing in candidate_papers(3, "few"):
            self.told_rightly(PATH, 3, thing)
            self.no(PATH, 2, thing)

    def test_papers_without_hues(self):
        for web in webs_up_to(4) + shapes(7) + shapes(8) + [HUB]:
            many = plain_most(web)
            for pick in (lambda n: 0, lambda n: n - 1, lambda n: n // 2):
                paper = branched(web, many + 1, pick)
                self.yes(web, many + 1, paper)
                self.yes(web, many + 2, paper)
                self.yes(web, GREAT, paper)
                self.no(web, many, paper)

    def test_a_knot_of_so_many_leaves_no_paper(self):
        for web in webs_up_to(4) + shapes(8) + [HUB]:
            many = plain_most(web)
            hueing = fewest_hues(web)
            self.assertIs(is_paper(web, many, ("hues", hueing[1])), False)
            self.assertIs(is_paper(web, many + 1, ("hues", hueing[1])), hueing[0] == many)
            self.assertIs(is_paper(web, hueing[0] + 1, ("hues", hueing[1])), True)
            paper = settled(web, many + 1)[1]
            for k in range(many + 1):
                self.no(web, k, paper)

    def test_a_paper_for_a_number_is_one_for_each_greater(self):
        for web in webs_up_to(4) + shapes(7) + [HUB]:
            for k in range(web[0] + 3):
                told = settled(web, k)
                if told[0] == "none":
                    for more in (k, k + 1, k + 2, GREAT, GREAT + 1):
                        self.yes(web, more, told[1])

    def test_just_papers_among_all_that_is_a_step_away_from_one(self):
        webs = webs_up_to(3) + [HUB, ring(5), ring(7), turned(ring(7)), mixed(8, 3), mixed(8, 4), clumps(8)]
        for web in webs:
            k = plain_most(web) + 1
            for paper in (settled(web, k)[1], ("hues", fewest_hues(web)[1])):
                for thing in spoiled(paper, PAPER_ATOMS):
                    for near_k in (k - 1, k, k + 1):
                        self.told_rightly(web, near_k, thing)
        for web in webs_up_to(3) + [HUB, ring(5)]:
            k = plain_most(web) + 1
            for thing in spoiled(branched(web, k, lambda n: n - 1), PAPER_ATOMS):
                for near_k in (k - 1, k, k + 1):
                    self.told_rightly(web, near_k, thing)

    def test_things_of_every_kind(self):
        for web in ((0, ()), (1, ()), PATH, HUB):
            for k in (0, 1, 3, GREAT):
                for odd in oddities():
                    for thing in (odd, (odd,), ("few", odd), ("hues", odd), ("place", odd, FEW, FEW), ("place", 0, odd, FEW),
                                  ("place", 0, FEW, odd), (odd, 0, FEW, FEW), (odd, (0, 1, 0)), ("hues", (0, odd, 0)),
                                  [odd], ["few", odd], ("place", 0, ("hues", odd), ("place", odd, odd, odd))):
                        self.told_rightly(web, k, thing)

    def test_things_twenty_within_one_another(self):
        for web in ((0, ()), (1, ()), loose(8), whole(8), HUB):
            for core in (FEW, ("hues", ()), ("hues", (0,)), 0, None, ()):
                for make in (lambda x: ("place", 0, x, FEW), lambda x: ("place", 0, FEW, x), lambda x: ("place", 0, x, x),
                             lambda x: ("hues", x), lambda x: (x,), lambda x: ["place", 0, x, x]):
                    for depth in (1, 2, 6, 8, 19):
                        thing = within(depth, core, make)
                        for k in (1, 2, 8, 9, GREAT):
                            self.assertIs(is_paper(web, k, thing), plain_is_paper(web, k, thing), (web, k, core, depth))

    def test_somewhat_beyond_eight_places(self):
        for web in (whole(10), loose(10), turned(ring(11)), mixed(10, 4)):
            k = most(web)[0] + 1
            self.yes(web, k, settled(web, k)[1])
            self.no(web, k - 1, settled(web, k)[1])

    def test_what_is_handed_in_stays(self):
        things = [["few"], ["hues", [0, 1, 0]], ("hues", [0, 1, 0]), ["place", 0, ["few"], ["few"]],
                  ("place", 0, ["few"], FEW), ("place", 0, FEW, ["few"])]
        for thing in oddities() + things:
            before = deepcopy(thing)
            is_paper(PATH, 3, thing)
            self.assertEqual(repr(thing), repr(before))


class Settled(unittest.TestCase):
    def check(self, web, k, many):
        """many is the most of the web, reckoned otherwise."""
        told = settled(web, k)
        about = repr((web, k, told))
        self.assertIs(type(told), tuple, about)
        self.assertEqual(len(told), 2, about)
        self.assertIs(type(told[0]), str, about)
        if k <= many:
            self.assertEqual(told[0], "knot", about)
            self.assertIs(is_knot(web, told[1]), True, about)
            self.assertEqual(len(told[1]), k, about)
        else:
            self.assertEqual(told[0], "none", about)
            self.assertIs(plain_is_paper(web, k, told[1]), True, about)
            self.assertIs(is_paper(web, k, told[1]), True, about)

    def check_all(self, web, many):
        for k in list(range(web[0] + 3)) + [GREAT]:
            self.check(web, k, many)

    def test_each_number_against_all_knots(self):
        for web in walked_webs(8):
            self.check_all(web, plain_most(web))

    def test_just_where_there_is_no_such_knot(self):
        for web in webs_up_to(4):
            sizes = {len(knot) for knot in plain_knots(web)}
            for k in range(7):
                self.assertEqual(settled(web, k)[0], "knot" if k in sizes else "none", repr((web, k)))

    def test_none_and_one_place(self):
        self.assertEqual(settled((0, ()), 0), ("knot", ()))
        self.assertEqual(settled((1, ()), 0), ("knot", ()))
        self.assertEqual(settled((1, ()), 1), ("knot", (0,)))
        for k in (1, 2, GREAT):
            self.check((0, ()), k, 0)
        for k in (2, 3, GREAT):
            self.check((1, ()), k, 1)

    def test_shapes_of_sixteen_places_and_fewer(self):
        for n in range(9, 17):
            for web in shapes(n):
                self.check_all(web, remembered_most(web))
                self.check_all(turned(web), remembered_most(turned(web)))

    def test_webs_drawn_by_a_rule(self):
        for n in (12, 15, 16):
            for seed in range(5, 25):
                web = mixed(n, seed)
                many = remembered_most(web)
                for k in (many - 1, many, many + 1, many + 2):
                    self.check(web, k, many)

    def test_where_no_hueing_will_do(self):
        # Rings of five, places of unlike ones all tied: each adds two to the most and at least five halves to the hues.
        for many in (1, 2, 3):
            n = 5 * many
            fives = [(5 * i + a, 5 * i + b) for i in range(many) for a, b in ring(5)[1]]
            web = web_of(n, fives + [(a, b) for a, b in all_pairs(n) if a // 5 != b // 5])
            self.check_all(web, 2 * many)
            self.assertEqual(settled(web, 2 * many + 1)[1][0], "place")
        self.check_all(HUB, 3)
        self.assertEqual(settled(HUB, 4)[1][0], "place")

    def test_parts_of_webs(self):
        for seed in range(5):
            for places in ([], [23], list(range(0, 24, 3)), list(range(12)), list(range(1, 24, 2))):
                web = part(mixed(24, seed), places)
                self.check_all(web, remembered_most(web))

    def test_either_or(self):
        for web in webs_up_to(4) + shapes(8) + shapes(16):
            words = [settled(web, k)[0] for k in range(web[0] + 3)]
            many = remembered_most(web)
            self.assertEqual(words, ["knot"] * (many + 1) + ["none"] * (web[0] + 2 - many), repr(web))

    def test_somewhat_beyond_sixteen_places(self):
        for web in (whole(24), loose(24), ring(24), turned(ring(24)), halves(24), star(24), mixed(20, 2), mixed(24, 3)):
            many = remembered_most(web)
            for k in (0, many, many + 1, 25, GREAT):
                self.check(web, k, many)

    def test_asked_more_than_once(self):
        web = mixed(12, 4)
        first = [settled(web, k) for k in range(14)]
        self.assertEqual([settled(web, k)[0] for k in range(14)], [told[0] for told in first])
        for k in range(14):
            self.check(web, k, remembered_most(web))


if __name__ == "__main__":
    unittest.main()
