import unittest
from copy import deepcopy
from fractions import Fraction

from reckonings import (plain_apart_sets, plain_are_weights, plain_fewest_hues, plain_is_cover, plain_is_fraction,
                        plain_is_hueing, plain_knots, plain_most, sharings_out)
from samples import (SIXTY, clumps, halves, loose, mixed, oddities, ring, shapes, spoiled, star, walked_webs, web_of,
                     webs_up_to, whole, within)
from tiefold.hues import fewest_hues
from tiefold.most import most
from tiefold.shares import are_weights, is_cover, shares
from tiefold.webs import part, turned

ONE = (1, 1)
HALF = (1, 2)
BIG = 10 ** 59
ALMOST = (BIG - 1, BIG)
TINY = (1, BIG)
ABOVE = (BIG + 1, BIG)

ODD_FRACTIONS = ((2, 2), (2, 4), (3, 3), (SIXTY, SIXTY), (BIG, BIG), (0, 2), (0, 0), (1, 0), (-1, 1),
                 (-1, -1), (1, -1), (-1, 2), (-2, -2), (0, -1), (1,), (), (1, 1, 1), (True, 1), (1, True),
                 (True, True), (False, 1), ("1", 1), (1, "1"), (None, 1), (1, None), [1, 1], [1, 2], ((1,), 1),
                 (1, (1,)), ([1], 1), ((1, 1),), 1, 0, 2, True, False, None, "1", "11", "", SIXTY, (SIXTY,),
                 (0, SIXTY), (SIXTY, 0), (-SIXTY, 1))


def worth_of(fractions):
    return sum((Fraction(*fraction) for fraction in fractions), Fraction(0))


def by_hues(web, hueing):
    """The cover that has each hue's places with the share 1."""
    return [(tuple(place for place in range(web[0]) if hueing[place] == hue), ONE) for hue in sorted(set(hueing))]


def on_knot(web, knot):
    """The weights that are 1 on a knot's places, else 0."""
    return tuple(ONE if place in knot else (0, 1) for place in range(web[0]))


class Asked(unittest.TestCase):
    def told(self, answer, wanted, web, thing):
        self.assertIs(answer, wanted, repr((web, thing))[:300])


class IsCover(Asked):
    def yes(self, web, thing):
        self.told(is_cover(web, thing), True, web, thing)

    def no(self, web, thing):
        self.told(is_cover(web, thing), False, web, thing)

    def test_no_places(self):
        self.yes((0, ()), [])
        for thing in ((), [()], [((), ONE)], [((0,), ONE)], None, [None], [[]], "", 0):
            self.no((0, ()), thing)

    def test_one_place(self):
        web = (1, ())
        for thing in ([((0,), ONE)], [((0,), (2, 1))], [((0,), (3, 2))], [((0,), ABOVE)], [((0,), (SIXTY, 1))],
                      [((0,), HALF), ((0,), HALF)], [((0,), (1, 3)), ((0,), (2, 3))],
                      [((0,), ALMOST), ((0,), TINY)], [((0,), TINY), ((0,), ONE)], [((0,), HALF)] * 3):
            self.yes(web, thing)
        for thing in ([], [((0,), HALF)], [((0,), ALMOST)], [((0,), (1, 3)), ((0,), (1, 3))],
                      [((0,), ALMOST), ((0,), (1, BIG + 1))], [((0,), TINY)] * 20):
            self.no(web, thing)

    def test_each_place_is_to_be_covered(self):
        web = ring(5)
        cover = [((place, place + 2), HALF) for place in range(3)] + [((0, 3), HALF), ((1, 4), HALF)]
        self.yes(web, cover)
        self.yes(web, cover[::-1])
        self.yes(web, cover + [((0,), TINY)])
        for i in range(5):
            self.no(web, cover[:i] + cover[i + 1:])
            self.no(web, cover[:i] + [(cover[i][0], (BIG // 2 - 1, BIG))] + cover[i + 1:])
            self.no(web, cover[:i] + [(cover[i][0][:1], HALF)] + cover[i + 1:])
            self.yes(web, cover[:i] + [(cover[i][0], ONE)] + cover[i + 1:])

    def test_just_the_apart_sets_may_have_shares(self):
        for web in webs_up_to(4):
            ground = [((place,), ONE) for place in range(web[0])]
            aparts = [repr(apart) for apart in plain_apart_sets(web)]
            self.yes(web, ground)
            for places in plain_knots(whole(web[0])):
                wanted = places != () and repr(places) in aparts
                self.assertIs(is_cover(web, ground + [(places, TINY)]), wanted, repr((web, places)))
                self.assertIs(is_cover(web, [(places, TINY)] + ground), wanted, repr((web, places)))

    def test_places_that_are_no_apart_set(self):
        web = (4, ((0, 1),))
        ground = [((0, 2, 3), ONE), ((1, 2, 3), ONE)]
        self.yes(web, ground)
        for places in ((), (0, 1), (0, 1, 2), (2, 0), (3, 2), (2, 2), (0, 0), (0, 2, 2), (0, 3, 2), (4,), (3, 4), (-1,),
                       (-1, 0), (SIXTY,), (True,), (False,), (0, True), (False, 2), [0], [0, 2], [], (0, (2,)),
                       ((0,),), ((0, 2),), ([0],), ("0",), "0", "", None, 0, True, (None,), (0, None)):
            self.no(web, ground + [(places, ONE)])
            self.no(web, [(places, ONE)] + ground)

    def test_shares_that_are_none(self):
        web = (2, ())
        ground = [((0, 1), ONE)]
        for share in ODD_FRACTIONS + ((0, 1),):
            self.no(web, ground + [((0,), share)])
            self.no(web, [((0,), share)] + ground)
            self.no(web, [((0, 1), share)])

    def test_items_of_other_forms(self):
        web = (2, ())
        ground = [((0, 1), ONE)]
        for item in ([(0, 1), ONE], ((0, 1),), (ONE,), ((0, 1), ONE, ONE), ((0, 1), 1, 1), (ONE, (0, 1), ()), (), [],
                     None, True, 0, 1, "", "01", (None, None), (None, ONE), ((0, 1), None), (0, ONE), ((0, 1), "1")):
            self.no(web, [item])
            self.no(web, ground + [item])
            self.no(web, [item] + ground)

    def test_other_kinds_than_a_list(self):
        for thing in ((((0, 1), ONE),), ((0, 1), ONE), (), None, True, False, 0, 1, SIXTY, "", "((0, 1), (1, 1))"):
            self.no((2, ()), thing)

    def test_each_right_hueing_gives_a_cover(self):
        for web in webs_up_to(4) + shapes(6) + shapes(7):
            for hueing in sharings_out(web[0]):
                right = plain_is_hueing(web, hueing)
                self.assertIs(is_cover(web, by_hues(web, hueing)), right, repr((web, hueing)))

    def test_things_of_every_kind(self):
        for web in ((0, ()), (1, ()), (2, ()), ring(5)):
            ground = [((place,), ONE) for place in range(web[0])]
            for odd in oddities():
                for thing in (odd, [odd], ground + [odd], ground + [(odd, ONE)], ground + [((0,), odd)],
                              ground + [((odd,), ONE)], ground + [((0,), (odd, 1))], ground + [((0,), (1, odd))]):
                    self.told(is_cover(web, thing), plain_is_cover(web, thing), web, thing)

    def test_things_twenty_within_one_another(self):
        for make in (lambda x: (x,), lambda x: [x], lambda x: (x, ONE), lambda x: [((0,), x)], lambda x: ((0,), x)):
            for core in (0, (), [], ONE, ((0,), ONE)):
                self.no((2, ()), within(18, core, make))

    def test_just_covers_among_all_that_is_a_step_away_from_one(self):
        for web in webs_up_to(4) + [ring(5), mixed(6, 1), mixed(7, 2), turned(ring(7)), clumps(7)]:
            cover = shares(web)[1]
            self.yes(web, cover)
            for thing in spoiled(cover):
                self.told(is_cover(web, thing), plain_is_cover(web, thing), web, thing)

    def test_shares_not_in_lowest_terms_anywhere(self):
        for web in webs_up_to(4) + shapes(7):
            cover = shares(web)[1]
            for i in range(len(cover)):
                share = cover[i][1]
                for by in (2, 3, -1, BIG):
                    self.no(web, cover[:i] + [(cover[i][0], (share[0] * by, share[1] * by))] + cover[i + 1:])

    def test_what_is_handed_in_stays(self):
        things = [[((0, 1), ONE)], [([0, 1], [1, 1])], [[[0], [1, 1]]], [((1, 0), (2, 2))], [((0,), HALF)] * 4]
        for thing in oddities() + things:
            before = deepcopy(thing)
            is_cover((2, ()), thing)
            self.assertEqual(repr(thing), repr(before))


class AreWeights(Asked):
    def yes(self, web, thing):
        self.told(are_weights(web, thing), True, web, thing)

    def no(self, web, thing):
        self.told(are_weights(web, thing), False, web, thing)

    def test_no_places(self):
        self.yes((0, ()), ())
        for thing in ([], ((0, 1),), (ONE,), None, "", 0, ((),)):
            self.no((0, ()), thing)

    def test_one_place(self):
        for weight in ((0, 1), ONE, HALF, (2, 3), ALMOST, TINY):
            self.yes((1, ()), (weight,))
        for weight in ((2, 1), (3, 2), ABOVE, (SIXTY, 1), (-1, 1), (-1, BIG), (0, 2), (2, 2)):
            self.no((1, ()), (weight,))

    def test_an_apart_set_comes_to_at_most_one(self):
        web = loose(3)
        for weights in ((ONE, (0, 1), (0, 1)), (HALF, HALF, (0, 1)), ((1, 3), (1, 3), (1, 3)), ((1, 2), (1, 3), (1, 6)),
                        ((0, 1), ALMOST, TINY), ((0, 1),) * 3, (TINY,) * 3):
            self.yes(web, weights)
        for weights in ((ONE, TINY, (0, 1)), (HALF, HALF, TINY), (HALF, HALF, HALF), (ONE, ONE, ONE),
                        ((1, 2), (1, 3), (1, 5)), (TINY, (0, 1), ONE), (ALMOST, TINY, TINY)):
            self.no(web, weights)

    def test_tied_places_may_come_to_more(self):
        self.yes(whole(7), (ONE,) * 7)
        self.yes(ring(5), (HALF,) * 5)
        self.yes(ring(7), ((1, 3),) * 7)
        self.no(ring(5), ((BIG // 2 + 1, BIG),) + (HALF,) * 4)
        self.no(ring(5), (ONE,) * 5)
        self.yes(ring(5), (ONE, ONE, (0, 1), (0, 1), (0, 1)))
        self.no(ring(5), (ONE, (0, 1), ONE, (0, 1), (0, 1)))
        for place in range(7):
            weights = [(1, 3)] * 7
            weights[place] = (BIG // 3 + 1, BIG)
            self.no(ring(7), tuple(weights))

    def test_just_knots_give_weights_of_one(self):
        for web in webs_up_to(5):
            knots = set(plain_knots(web))
            for places in plain_knots(whole(web[0])):
                self.assertIs(are_weights(web, on_knot(web, places)), places in knots, repr((web, places)))

    def test_a_lack_in_one_place_does_not_make_up_for_another(self):
        self.no((2, ()), ((2, 1), (-1, 1)))
        self.no((2, ()), ((-1, 1), ONE))
        self.no((2, ((0, 1),)), ((-1, 1), ONE))

    def test_weights_that_are_none(self):
        for web in ((2, ()), (2, ((0, 1),))):
            for weight in ODD_FRACTIONS:
                self.no(web, (weight, (0, 1)))
                self.no(web, ((0, 1), weight))

    def test_parts_more_or_fewer(self):
        for web in (loose(3), whole(3)):
            for many in (0, 1, 2, 4, 5):
                self.no(web, ((0, 1),) * many)
            self.yes(web, ((0, 1),) * 3)

    def test_other_kinds_than_a_tuple(self):
        for thing in ([ONE, (0, 1)], [[1, 1], [0, 1]], ([1, 1], [0, 1]), None, True, 0, "", "11", ONE, (0, 1), (1, 0),
                      ((ONE, (0, 1)),), SIXTY):
            self.no((2, ()), thing)

    def test_things_of_every_kind(self):
        for web in ((0, ()), (1, ()), (2, ()), (2, ((0, 1),))):
            for odd in oddities():
                for thing in (odd, (odd,), [odd], (odd, (0, 1)), ((0, 1), odd), ((odd, 1),), ((0, 1), (odd, 1)),
                              ((1, odd), (0, 1)), ((0, odd),), ((odd, odd), (odd, odd))):
                    self.told(are_weights(web, thing), plain_are_weights(web, thing), web, thing)

    def test_things_twenty_within_one_another(self):
        for web in ((1, ()), (2, ())):
            for make in (lambda x: (x,), lambda x: [x], lambda x: (x, 1), lambda x: ((0, 1), x)):
                for core in (0, (), [], (0, 1)):
                    self.no(web, within(19, core, make))

    def test_just_weights_among_all_that_is_a_step_away_from_them(self):
        for web in webs_up_to(4) + shapes(5) + shapes(7):
            weights = shares(web)[2]
            self.yes(web, weights)
            for thing in spoiled(weights):
                self.told(are_weights(web, thing), plain_are_weights(web, thing), web, thing)

    def test_weights_not_in_lowest_terms_anywhere(self):
        for web in webs_up_to(4) + shapes(7):
            weights = shares(web)[2]
            for i in range(len(weights)):
                for by in (2, 3, -1, BIG):
                    other = (weights[i][0] * by, weights[i][1] * by)
                    self.no(web, weights[:i] + (other,) + weights[i + 1:])

    def test_what_is_handed_in_stays(self):
        for thing in oddities() + [([0, 1], [1, 1]), [(0, 1), (1, 1)], ((2, 2), [0])]:
            before = deepcopy(thing)
            are_weights((2, ()), thing)
            self.assertEqual(repr(thing), repr(before))


class Shares(unittest.TestCase):
    def check(self, web):
        told = shares(web)
        self.assertIs(type(told), tuple)
        self.assertEqual(len(told), 3)
        worth, cover, weights = told
        self.assertIs(plain_is_fraction(worth), True, repr((web, told)))
        self.assertIs(is_cover(web, cover), True, repr((web, told)))
        self.assertIs(plain_is_cover(web, cover), True, repr((web, told)))
        self.assertIs(are_weights(web, weights), True, repr((web, told)))
        self.assertIs(plain_are_weights(web, weights), True, repr((web, told)))
        self.assertEqual(worth_of([share for places, share in cover]), Fraction(*worth), repr((web, told)))
        self.assertEqual(worth_of(weights), Fraction(*worth), repr((web, told)))
        return Fraction(*worth)

    def check_worth(self, web, worth):
        self.check(web)
        self.assertEqual(shares(web)[0], worth, repr(web))

    def test_cover_and_weights_are_right_and_of_the_same_worth(self):
        # No weights are worth more than any cover, so two of the same worth leave no other worth to be told.
        for web in walked_webs(7):
            self.check(web)

    def test_between_the_most_and_the_fewest_hues(self):
        for web in walked_webs(7):
            worth = self.check(web)
            self.assertLessEqual(plain_most(web), worth, repr(web))
            self.assertLessEqual(worth, plain_fewest_hues(web, sharings_out(web[0])), repr(web))
            self.assertLessEqual(most(web)[0], worth, repr(web))
            self.assertLessEqual(worth, fewest_hues(web)[0], repr(web))

    def test_none_and_one_place(self):
        self.assertEqual(shares((0, ())), ((0, 1), [], ()))
        self.assertEqual(shares((1, ())), ((1, 1), [((0,), (1, 1))], ((1, 1),)))

    def test_worths_of_shapes(self):
        for n in range(2, 8):
            self.check_worth(loose(n), (1, 1))
            self.check_worth(whole(n), (n, 1))
            self.check_worth(halves(n), (2, 1))
            self.check_worth(star(n), (2, 1))
            self.check_worth(clumps(n), (min(n, 3), 1))
            self.check_worth(turned(clumps(n)), ((n + 2) // 3, 1))
        self.check_worth(ring(3), (3, 1))
        self.check_worth(ring(4), (2, 1))
        self.check_worth(ring(5), (5, 2))
        self.check_worth(ring(6), (2, 1))
        self.check_worth(ring(7), (7, 3))
        self.check_worth(turned(ring(5)), (5, 2))
        self.check_worth(turned(ring(6)), (3, 1))
        self.check_worth(turned(ring(7)), (7, 2))

    def test_worths_that_are_no_whole_numbers_in_other_webs(self):
        five = list(ring(5)[1])
        self.check_worth(web_of(6, five + [(place, 5) for place in range(5)]), (7, 2))
        self.check_worth(web_of(7, five + [(place, 5) for place in range(5)] + [(place, 6) for place in range(5)]),
                         (7, 2))
        self.check_worth(web_of(7, five + [(place, 5) for place in range(5)] + [(place, 6) for place in range(6)]),
                         (9, 2))
        self.check_worth(web_of(7, five + [(5, 6)]), (5, 2))

    def test_parts_of_webs(self):
        for seed in range(5):
            for places in ([], [23], list(range(0, 21, 3)), list(range(7)), list(range(1, 24, 4))):
                self.check(part(mixed(24, seed), places))

    def test_somewhat_beyond_seven_places(self):
        self.check_worth(ring(9), (9, 4))
        self.check_worth(turned(ring(9)), (9, 2))
        # Two rings of five, each place of one tied with each of the other: two times five halves, a whole worth.
        fives = [(at + a, at + b) for at in (0, 5) for a, b in ring(5)[1]]
        self.check_worth(web_of(10, fives + [(a, b) for a in range(5) for b in range(5, 10)]), (5, 1))
        for web in shapes(8):
            self.check(web)

    def test_a_new_list_at_each_call(self):
        told = shares(ring(5))
        before = deepcopy(told)
        told[1].append(None)
        told[1][0] = 0
        again = shares(ring(5))
        self.assertIs(is_cover(ring(5), again[1]), True)
        self.assertEqual(again[0], before[0])
        none = shares((0, ()))
        none[1].append(0)
        self.assertEqual(shares((0, ()))[1], [])


if __name__ == "__main__":
    unittest.main()
