import unittest
from copy import deepcopy
from itertools import combinations, permutations

from samples import (SIXTY, all_pairs, are_tied, loose, oddities, ring, shapes, spoiled, star, webs_up_to, whole,
                     within)
from tiefold.webs import is_web, moved, near, part, turned


class IsWeb(unittest.TestCase):
    def yes(self, thing):
        self.assertIs(is_web(thing), True, repr(thing)[:200])

    def no(self, thing):
        self.assertIs(is_web(thing), False, repr(thing)[:200])

    def test_webs_of_every_number_of_places(self):
        for n in range(25):
            for web in shapes(n):
                self.yes(web)

    def test_the_least_webs(self):
        self.yes((0, ()))
        self.yes((1, ()))
        self.yes((2, ()))
        self.yes((2, ((0, 1),)))
        self.yes((24, ((0, 23),)))
        self.yes((24, ((22, 23),)))

    def test_numbers_of_places_beyond_the_bounds(self):
        for n in (25, 26, 1000, SIXTY, -1, -2, -SIXTY):
            self.no((n, ()))
        self.no(loose(25))
        self.no(whole(25))
        self.no(ring(25))

    def test_a_truth_is_no_whole_number(self):
        for thing in ((True, ()), (False, ()), (2, ((False, 1),)), (2, ((0, True),)), (2, ((False, True),)),
                      (3, ((True, 2),)), (3, ((0, 1), (True, 2)))):
            self.no(thing)

    def test_pairs_that_are_no_ties(self):
        for pair in ((1, 0), (2, 1), (0, 0), (2, 2), (0, 3), (2, 3), (3, 4), (-1, 0), (-1, 2), (-2, -1), (0, SIXTY),
                     (-SIXTY, 0), (), (0,), (0, 1, 2), (0, "1"), ("0", "1"), (0, None), (None, 1), (0, (1,)),
                     ((0,), 1), [0, 1], "01", None, 0, True):
            self.no((3, (pair,)))
        self.no((0, ((0, 1),)))
        self.no((1, ((0, 1),)))
        self.no((1, ((0, 0),)))

    def test_pairs_that_do_not_rise(self):
        self.no((3, ((0, 1), (0, 1))))
        self.no((3, ((0, 2), (0, 1))))
        self.no((3, ((1, 2), (0, 2))))
        self.no((3, ((0, 1), (1, 2), (0, 2))))
        self.no((3, ((0, 1), (0, 2), (1, 2), (1, 2))))
        self.no((24, tuple(all_pairs(24)[::-1])))

    def test_two_pairs_exchanged_anywhere(self):
        pairs = all_pairs(5)
        for i, j in combinations(range(len(pairs)), 2):
            swapped = list(pairs)
            swapped[i], swapped[j] = pairs[j], pairs[i]
            self.no((5, tuple(swapped)))

    def test_lists_in_the_place_of_tuples(self):
        self.no([0, ()])
        self.no((0, []))
        self.no([2, [[0, 1]]])
        self.no([2, ((0, 1),)])
        self.no((2, [(0, 1)]))
        self.no((2, ([0, 1],)))

    def test_parts_more_or_fewer(self):
        self.no(())
        self.no((0,))
        self.no(((),))
        self.no((0, (), ()))
        self.no((2, ((0, 1),), ()))
        self.no((2, ((0, 1),), None))
        self.no((2, (0, 1)))
        self.no((2, 0, 1))
        self.no((((0, 1),), 2))

    def test_things_of_other_kinds(self):
        counts = [repr(n) for n in range(25)]
        for thing in oddities():
            self.no(thing)
            self.assertIs(is_web((thing, ())), repr(thing) in counts, repr(thing))
            self.assertIs(is_web((3, thing)), repr(thing) in ("()", "((0, 1),)"), repr(thing))
            self.assertIs(is_web((3, (thing,))), repr(thing) == "(0, 1)", repr(thing))
            self.assertIs(is_web((3, ((thing, 2),))), repr(thing) in ("0", "1"), repr(thing))
            self.assertIs(is_web((3, ((0, thing),))), repr(thing) in ("1", "2"), repr(thing))

    def test_things_twenty_within_one_another(self):
        self.no(within(20, 0, lambda x: (x,)))
        self.no(within(20, 0, lambda x: (2, x)))
        self.no(within(20, (0, 1), lambda x: (2, (x,))))
        self.no(within(20, (2, ((0, 1),)), lambda x: [x]))

    def test_just_webs_among_all_that_is_a_step_away_from_one(self):
        known = {repr(web) for web in webs_up_to(5)}
        for web in webs_up_to(4):
            self.yes(web)
            for thing in spoiled(web):
                self.assertIs(is_web(thing), repr(thing) in known, repr(thing))

    def test_what_is_handed_in_stays(self):
        for thing in oddities() + [[3, [[0, 1], [0, 2]]], (3, [[0, 1]]), (3, ([0, 1],))]:
            before = deepcopy(thing)
            is_web(thing)
            self.assertEqual(repr(thing), repr(before))


class Near(unittest.TestCase):
    def test_a_rising_list_of_just_the_tied_places(self):
        for n in range(25):
            for web in shapes(n):
                for place in range(n):
                    told = near(web, place)
                    self.assertIsInstance(told, list)
                    self.assertEqual(told, [other for other in range(n) if are_tied(web, place, other)])

    def test_written_out(self):
        web = (5, ((0, 3), (1, 3), (2, 3), (3, 4)))
        self.assertEqual(near(web, 3), [0, 1, 2, 4])
        self.assertEqual(near(web, 4), [3])
        self.assertEqual(near(loose(1), 0), [])
        self.assertEqual(near(whole(24), 23), list(range(23)))

    def test_a_new_list_at_each_call(self):
        web = star(5)
        told = near(web, 0)
        told.append(99)
        told[0] = 98
        self.assertEqual(near(web, 0), [1, 2, 3, 4])
        self.assertEqual(web, star(5))
        self.assertIsNot(near(web, 1), near(web, 1))


class Turned(unittest.TestCase):
    def test_tied_just_where_the_web_was_apart(self):
        for n in range(25):
            for web in shapes(n):
                told = turned(web)
                self.assertIs(is_web(told), True)
                self.assertEqual(told[0], n)
                self.assertEqual(set(told[1]), set(all_pairs(n)) - set(web[1]))

    def test_turned_twice_it_is_the_web_itself(self):
        for web in webs_up_to(5) + shapes(24):
            self.assertEqual(turned(turned(web)), web)

    def test_written_out(self):
        self.assertEqual(turned((0, ())), (0, ()))
        self.assertEqual(turned((1, ())), (1, ()))
        self.assertEqual(turned((2, ())), (2, ((0, 1),)))
        self.assertEqual(turned((4, ((0, 1), (2, 3)))), (4, ((0, 2), (0, 3), (1, 2), (1, 3))))
        self.assertEqual(turned(whole(24)), loose(24))
        self.assertEqual(turned(loose(24)), whole(24))


class Part(unittest.TestCase):
    def check(self, web, places):
        handed = list(places)
        told = part(web, handed)
        self.assertEqual(handed, list(places))
        self.assertIs(is_web(told), True)
        self.assertEqual(told[0], len(places))
        for i, j in combinations(range(len(places)), 2):
            self.assertEqual((i, j) in told[1], are_tied(web, places[i], places[j]))

    def test_every_part_of_small_webs(self):
        for n in range(7):
            for web in shapes(n):
                for many in range(n + 1):
                    for places in combinations(range(n), many):
                        self.check(web, places)

    def test_parts_of_great_webs(self):
        for web in shapes(24):
            for places in ((), (23,), (0, 23), range(0, 24, 3), range(1, 24), range(23), range(24)):
                self.check(web, tuple(places))

    def test_the_empty_list_and_all_places(self):
        for n in (0, 1, 5, 24):
            for web in shapes(n):
                self.assertEqual(part(web, []), (0, ()))
                self.assertEqual(part(web, list(range(n))), web)

    def test_written_out(self):
        self.assertEqual(part((5, ((0, 1), (1, 3), (3, 4))), [1, 3, 4]), (3, ((0, 1), (1, 2))))
        self.assertEqual(part((5, ((0, 1), (1, 3), (3, 4))), [0, 3]), (2, ()))

    def test_the_handed_list_is_not_kept(self):
        handed = [1, 3]
        told = part((4, ((1, 3),)), handed)
        handed.append(2)
        handed[0] = 0
        self.assertEqual(told, (2, ((0, 1),)))


class Moved(unittest.TestCase):
    def check(self, web, order):
        handed = list(order)
        told = moved(web, handed)
        self.assertEqual(handed, list(order))
        self.assertIs(is_web(told), True)
        self.assertEqual(told[0], web[0])
        for i, j in combinations(range(web[0]), 2):
            self.assertEqual((i, j) in told[1], are_tied(web, order[i], order[j]))
        self.assertEqual(moved(told, [order.index(place) for place in range(web[0])]), web)

    def test_every_order_of_small_webs(self):
        for n in range(6):
            for web in shapes(n):
                for order in permutations(range(n)):
                    self.check(web, order)

    def test_orders_of_great_webs(self):
        for web in shapes(24):
            self.check(web, tuple(range(24)))
            self.check(web, tuple(range(23, -1, -1)))
            self.check(web, tuple(i * 7 % 24 for i in range(24)))
            self.check(web, tuple((i + 5) % 24 for i in range(24)))

    def test_written_out(self):
        # Place 0 is what place 1 was, 1 what 2 was, 2 what 0 was: so the tie of 0 and 1 is now that of 2 and 0.
        self.assertEqual(moved((3, ((0, 1),)), [1, 2, 0]), (3, ((0, 2),)))
        self.assertEqual(moved((4, ((0, 1), (1, 2))), [3, 1, 0, 2]), (4, ((1, 2), (1, 3))))
        self.assertEqual(moved((0, ()), []), (0, ()))

    def test_the_handed_list_is_not_kept(self):
        handed = [1, 0, 2]
        told = moved((3, ((0, 2),)), handed)
        handed.reverse()
        handed.pop()
        self.assertEqual(told, (3, ((1, 2),)))


if __name__ == "__main__":
    unittest.main()
