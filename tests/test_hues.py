import unittest
from copy import deepcopy
from itertools import permutations, product

from reckonings import every_hueing, plain_along, plain_fewest_hues, plain_is_hueing, plain_knots, sharings_out
from samples import (SIXTY, all_pairs, clumps, halves, loose, mixed, oddities, ring, shapes, spoiled, star, walked_webs,
                     web_of, webs_up_to, whole, within)
from tiefold.hues import fewest_hues, hued_along, is_hueing
from tiefold.most import most
from tiefold.webs import part, turned

PATH = (3, ((0, 1), (1, 2)))


class IsHueing(unittest.TestCase):
    def yes(self, web, thing):
        self.assertIs(is_hueing(web, thing), True, repr((web, thing))[:200])

    def no(self, web, thing):
        self.assertIs(is_hueing(web, thing), False, repr((web, thing))[:200])

    def test_just_the_right_ones_among_all_hueings(self):
        for web in webs_up_to(4):
            for hueing in product(range(-1, web[0] + 2), repeat=web[0]):
                right = all(0 <= hue < web[0] for hue in hueing) and all(hueing[a] != hueing[b] for a, b in web[1])
                self.assertIs(is_hueing(web, hueing), right, repr((web, hueing)))

    def test_none_and_one_place(self):
        self.yes((0, ()), ())
        self.no((0, ()), (0,))
        self.yes((1, ()), (0,))
        self.no((1, ()), ())
        self.no((1, ()), (1,))
        self.no((1, ()), (-1,))
        self.no((1, ()), (0, 0))

    def test_great_webs(self):
        self.yes(loose(24), (0,) * 24)
        self.yes(loose(24), (23,) * 24)
        self.yes(whole(24), tuple(range(24)))
        self.yes(whole(24), tuple(range(23, -1, -1)))
        self.no(whole(24), (0,) + tuple(range(23)))
        self.no(whole(24), tuple(range(23)) + (0,))
        self.no(whole(24), tuple(range(1, 25)))
        self.yes(ring(24), (0, 1) * 12)
        self.no(ring(24), (0, 1) * 11 + (0, 0))
        self.yes(halves(24), (5, 7) * 12)
        self.no(halves(24), (5, 7) * 11 + (7, 5))

    def test_one_tie_is_enough_to_make_it_wrong(self):
        for pair in all_pairs(24):
            self.no(web_of(24, [pair]), (0,) * 24)

    def test_hues_beyond_the_web(self):
        for hue in (-1, 3, 4, 24, SIXTY, -SIXTY):
            for at in range(3):
                hueing = [0, 1, 0]
                hueing[at] = hue
                self.no(PATH, tuple(hueing))

    def test_hues_need_not_begin_at_0_nor_be_without_gaps(self):
        for hueing in ((2, 1, 2), (0, 2, 0), (1, 0, 2), (2, 0, 1)):
            self.yes(PATH, hueing)

    def test_parts_more_or_fewer(self):
        for thing in ((), (0,), (0, 1), (0, 1, 0, 1), (0, 1, 0, 0), (0, 1, 0, None), (0, 1, 0, ())):
            self.no(PATH, thing)

    def test_a_truth_is_no_hue(self):
        for thing in ((0, True, 0), (False, 1, 0), (False, True, False), (0, 1, False), (True, 0, True)):
            self.no(PATH, thing)
        self.no((1, ()), (False,))

    def test_lists_and_other_kinds(self):
        for thing in ([0, 1, 0], [], ([0, 1, 0],), ((0, 1, 0),), ([0], 1, 0), ((0,), 1, 0), ("0", 1, 0),
                      ("0", "1", "0"), (None, 1, 0), (0, None, 0), "010", "", None, 0, True, SIXTY):
            self.no(PATH, thing)

    def test_things_of_every_kind(self):
        for web in ((0, ()), (1, ()), (2, ()), PATH, whole(24)):
            for thing in oddities():
                self.assertIs(is_hueing(web, thing), plain_is_hueing(web, thing), repr(thing))
                self.assertIs(is_hueing(web, (thing,)), plain_is_hueing(web, (thing,)), repr(thing))
                self.assertIs(is_hueing(web, (0, thing, 0)), plain_is_hueing(web, (0, thing, 0)), repr(thing))

    def test_things_twenty_within_one_another(self):
        for web in ((1, ()), (2, ())):
            for make in (lambda x: (x,), lambda x: [x], lambda x: (0, x), lambda x: (x, 1)):
                self.no(web, within(20, 0, make))

    def test_just_right_hueings_among_all_that_is_a_step_away_from_one(self):
        for web in webs_up_to(4) + shapes(6) + shapes(8):
            hueing = fewest_hues(web)[1]
            self.yes(web, hueing)
            for thing in spoiled(hueing):
                self.assertIs(is_hueing(web, thing), plain_is_hueing(web, thing), repr((web, thing)))

    def test_what_is_handed_in_stays(self):
        for thing in oddities() + [[0, 1, 0], ([0], 1, 0), [2, 1, 0]]:
            before = deepcopy(thing)
            is_hueing(PATH, thing)
            self.assertEqual(repr(thing), repr(before))


class HuedAlong(unittest.TestCase):
    def check(self, web, order):
        handed = list(order)
        told = hued_along(web, handed)
        self.assertEqual(handed, list(order))
        self.assertIs(is_hueing(web, told), True, repr((web, order, told)))
        self.assertEqual(told, plain_along(web, list(order)), repr((web, order)))

    def test_every_order_of_small_webs(self):
        for web in webs_up_to(4) + shapes(5) + shapes(6):
            for order in permutations(range(web[0])):
                self.check(web, order)

    def test_orders_of_webs_of_every_number_of_places(self):
        for n in range(25):
            for web in shapes(n):
                self.check(web, range(n))
                self.check(web, range(n - 1, -1, -1))
        for web in shapes(24):
            self.check(web, [i * 7 % 24 for i in range(24)])
            self.check(web, [i * 5 % 24 for i in range(24)])
            self.check(turned(web), [i * 11 % 24 for i in range(24)])

    def test_written_out(self):
        self.assertEqual(hued_along((0, ()), []), ())
        self.assertEqual(hued_along((1, ()), [0]), (0,))
        self.assertEqual(hued_along(loose(24), list(range(24))), (0,) * 24)
        self.assertEqual(hued_along(whole(24), list(range(24))), tuple(range(24)))
        self.assertEqual(hued_along(whole(24), list(range(23, -1, -1))), tuple(range(23, -1, -1)))
        # From both ends of a line of four the same hue comes to the middle, so that a third one is needed.
        line = (4, ((0, 1), (1, 2), (2, 3)))
        self.assertEqual(hued_along(line, [0, 1, 2, 3]), (0, 1, 0, 1))
        self.assertEqual(hued_along(line, [0, 3, 1, 2]), (0, 1, 2, 0))
        self.assertEqual(hued_along(line, [3, 0, 2, 1]), (0, 2, 1, 0))

    def test_the_least_free_number_not_one_more_than_the_greatest(self):
        web = (4, ((0, 1), (0, 2), (1, 2), (1, 3), (2, 3)))
        self.assertEqual(hued_along(web, [0, 1, 2, 3]), (0, 1, 2, 0))
        self.assertEqual(hued_along((4, ((0, 1), (1, 2), (2, 3))), [0, 1, 3, 2]), (0, 1, 2, 0))

    def test_what_stands_later_in_the_order_does_not_count(self):
        self.assertEqual(hued_along(star(4), [3, 2, 1, 0]), (1, 0, 0, 0))
        self.assertEqual(hued_along(star(4), [0, 1, 2, 3]), (0, 1, 1, 1))

    def test_along_some_order_come_just_the_fewest(self):
        for web in webs_up_to(4) + shapes(6):
            many = min(len(set(hued_along(web, list(order)))) for order in permutations(range(web[0])))
            self.assertEqual(many, fewest_hues(web)[0], repr(web))

    def test_the_handed_list_is_not_kept(self):
        handed = [2, 0, 1]
        told = hued_along(PATH, handed)
        handed.reverse()
        handed.pop()
        self.assertEqual(told, (0, 1, 0))


class FewestHues(unittest.TestCase):
    def check(self, web, many):
        told = fewest_hues(web)
        self.assertIs(type(told), tuple, repr(web))
        self.assertEqual(len(told), 2, repr(web))
        self.assertIs(type(told[0]), int, repr(web))
        self.assertEqual(told[0], many, repr(web))
        self.assertIs(is_hueing(web, told[1]), True, repr((web, told)))
        self.assertIs(plain_is_hueing(web, told[1]), True, repr((web, told)))
        self.assertEqual(len(set(told[1])), many, repr((web, told)))

    def test_against_a_walk_over_all_hueings(self):
        hueings = {n: every_hueing(n) for n in range(5)}
        for web in webs_up_to(4):
            self.check(web, plain_fewest_hues(web, hueings[web[0]]))
        for web in shapes(5):
            self.check(web, plain_fewest_hues(web, every_hueing(5)))

    def test_against_a_walk_over_all_ways_of_sharing_places_out(self):
        for web in walked_webs(8):
            self.check(web, plain_fewest_hues(web, sharings_out(web[0])))

    def test_none_and_one_place(self):
        self.assertEqual(fewest_hues((0, ())), (0, ()))
        self.assertEqual(fewest_hues((1, ())), (1, (0,)))

    def test_shapes_of_every_number_of_places(self):
        for n in range(2, 9):
            self.check(loose(n), 1)
            self.check(whole(n), n)
            self.check(ring(n), 2 + n % 2 if n > 2 else 2)
            self.check(halves(n), 2)
            self.check(star(n), 2)
            self.check(clumps(n), min(n, 3))
            self.check(turned(ring(n)), 1 if n == 3 else (n + 1) // 2)
            self.check(turned(halves(n)), (n + 1) // 2)
            self.check(turned(star(n)), n - 1)
            self.check(turned(clumps(n)), (n + 2) // 3)

    def test_somewhat_beyond_eight_places(self):
        self.check(whole(10), 10)
        self.check(ring(11), 3)
        self.check(turned(ring(11)), 6)

    def test_more_hues_than_any_knot_has_places(self):
        # A ring of five with a hub, and one of seven places: in both the most is less than the fewest hues.
        hub = web_of(6, list(ring(5)[1]) + [(place, 5) for place in range(5)])
        self.check(hub, 4)
        self.assertEqual(most(hub)[0], 3)
        self.check(ring(7), 3)
        self.assertEqual(most(ring(7))[0], 2)

    def test_parts_of_webs(self):
        for seed in range(5):
            for places in ([], [23], list(range(0, 24, 3)), list(range(8)), list(range(1, 24, 4))):
                web = part(mixed(24, seed), places)
                self.check(web, plain_fewest_hues(web, sharings_out(web[0])))

    def test_no_knot_has_more_places_than_a_right_hueing_has_hues(self):
        for web in walked_webs(8):
            self.assertLessEqual(most(web)[0], fewest_hues(web)[0], repr(web))
        for web in webs_up_to(4):
            greatest = max(len(knot) for knot in plain_knots(web))
            for hueing in every_hueing(web[0]):
                if is_hueing(web, hueing):
                    self.assertGreaterEqual(len(set(hueing)), greatest)
        for web in shapes(24):
            self.assertLessEqual(most(web)[0], len(set(hued_along(web, list(range(24))))))


if __name__ == "__main__":
    unittest.main()
