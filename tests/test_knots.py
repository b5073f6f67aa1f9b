import unittest
from copy import deepcopy
from itertools import combinations

from reckonings import plain_counted, plain_full_knots, plain_knots
from samples import SIXTY, loose, oddities, ring, shapes, spoiled, star, walked_webs, webs_up_to, whole, within
from tiefold.knots import counted, full_knots, is_knot
from tiefold.webs import turned

BOWTIE = (5, ((0, 1), (0, 2), (1, 2), (2, 3), (2, 4), (3, 4)))


class IsKnot(unittest.TestCase):
    def yes(self, web, thing):
        self.assertIs(is_knot(web, thing), True, repr((web, thing))[:200])

    def no(self, web, thing):
        self.assertIs(is_knot(web, thing), False, repr((web, thing))[:200])

    def test_just_the_knots_among_all_sets_of_places(self):
        for n in range(11):
            for web in shapes(n):
                knots = set(plain_knots(web))
                for many in range(n + 1):
                    for places in combinations(range(n), many):
                        self.assertIs(is_knot(web, places), places in knots)

    def test_none_and_single_places(self):
        for n in (0, 1, 2, 24):
            for web in shapes(n):
                self.yes(web, ())
                for place in range(n):
                    self.yes(web, (place,))

    def test_great_webs(self):
        self.yes(whole(24), tuple(range(24)))
        self.yes(whole(24), tuple(range(0, 24, 2)))
        self.yes(turned(loose(24)), tuple(range(24)))
        self.no(turned(whole(24)), (0, 23))
        self.yes(ring(24), (0, 23))
        self.no(ring(24), (0, 1, 23))
        self.no(whole(24), tuple(range(25)))

    def test_all_tied_but_two(self):
        web = whole(24)
        for lost in (0, 100, 275):
            lacking = (24, web[1][:lost] + web[1][lost + 1:])
            self.no(lacking, tuple(range(24)))
            for place in web[1][lost]:
                self.yes(lacking, tuple(other for other in range(24) if other != place))

    def test_not_rising(self):
        for thing in ((1, 0), (2, 1, 0), (0, 2, 1), (1, 0, 2), (0, 0), (1, 1), (0, 1, 1), (0, 0, 1), (0, 1, 0)):
            self.no(BOWTIE, thing)

    def test_places_beyond_the_web(self):
        for thing in ((-1,), (5,), (-1, 0), (4, 5), (3, 4, 5), (SIXTY,), (-SIXTY,), (0, SIXTY), (-SIXTY, 0)):
            self.no(BOWTIE, thing)
        self.no((0, ()), (0,))
        self.no((1, ()), (1,))
        self.no((1, ()), (0, 1))

    def test_places_that_are_apart(self):
        for thing in ((0, 3), (1, 4), (0, 1, 3), (0, 1, 2, 3), (0, 1, 2, 3, 4), (1, 2, 3)):
            self.no(BOWTIE, thing)
        self.no((2, ()), (0, 1))

    def test_a_truth_is_no_place(self):
        for thing in ((True,), (False,), (0, True), (False, 1), (False, True), (0, True, 2), (True, 2)):
            self.no(BOWTIE, thing)

    def test_lists_and_other_kinds(self):
        for thing in ([], [0], [0, 1], ([0],), ((0,),), ((0, 1),), ((),), (0, (1,)), (0, [1]), ("0",), ("0", "1"),
                      (0, "1"), (None,), (0, None), "", "01", None, 0, 1, True, False, SIXTY):
            self.no(BOWTIE, thing)

    def test_things_of_every_kind(self):
        for web in ((0, ()), BOWTIE, whole(24)):
            known = {repr(()), repr((0, 1))} if web[0] else {repr(())}
            for thing in oddities():
                self.assertIs(is_knot(web, thing), repr(thing) in known, repr(thing))
                self.assertIs(is_knot(web, (thing,)), repr(thing) in [str(place) for place in range(web[0])])

    def test_things_twenty_within_one_another(self):
        for make in (lambda x: (x,), lambda x: [x], lambda x: (0, x), lambda x: (x, 1)):
            self.no(BOWTIE, within(20, 0, make))

    def test_just_knots_among_all_that_is_a_step_away_from_one(self):
        for web in webs_up_to(4):
            known = {repr(knot) for knot in plain_knots(web)}
            for many in range(web[0] + 1):
                for places in combinations(range(web[0]), many):
                    for thing in spoiled(places):
                        self.assertIs(is_knot(web, thing), repr(thing) in known, repr((web, thing)))

    def test_what_is_handed_in_stays(self):
        for thing in oddities() + [[0, 1], ([0, 1],), [[0], [1]], [1, 0]]:
            before = deepcopy(thing)
            is_knot(BOWTIE, thing)
            self.assertEqual(repr(thing), repr(before))


class FullKnots(unittest.TestCase):
    def test_against_a_walk_over_all_sets_of_places(self):
        for web in walked_webs(10):
            told = full_knots(web)
            self.assertIsInstance(told, list)
            self.assertEqual(told, plain_full_knots(web), repr(web))

    def test_somewhat_beyond_ten_places(self):
        self.assertEqual(full_knots(whole(12)), [tuple(range(12))])
        self.assertEqual(full_knots(star(12)), [(0, place) for place in range(1, 12)])

    def test_written_out(self):
        self.assertEqual(full_knots((0, ())), [()])
        self.assertEqual(full_knots((1, ())), [(0,)])
        self.assertEqual(full_knots(loose(10)), [(place,) for place in range(10)])
        self.assertEqual(full_knots(whole(10)), [tuple(range(10))])
        self.assertEqual(full_knots(BOWTIE), [(0, 1, 2), (2, 3, 4)])
        self.assertEqual(full_knots((5, ((0, 1), (1, 3), (1, 4), (2, 4)))), [(0, 1), (1, 3), (1, 4), (2, 4)])
        self.assertEqual(full_knots(ring(4)), [(0, 1), (0, 3), (1, 2), (2, 3)])

    def test_the_list_rises_as_python_sorts_tuples(self):
        # A longer knot stands ahead of a shorter one where its places come first.
        web = (5, ((0, 1), (0, 2), (0, 4), (1, 2), (3, 4)))
        self.assertEqual(full_knots(web), [(0, 1, 2), (0, 4), (3, 4)])

    def test_a_new_list_at_each_call(self):
        told = full_knots(BOWTIE)
        told.append(())
        told[0] = None
        self.assertEqual(full_knots(BOWTIE), [(0, 1, 2), (2, 3, 4)])
        none = full_knots((0, ()))
        none.clear()
        self.assertEqual(full_knots((0, ())), [()])


class Counted(unittest.TestCase):
    def test_against_a_walk_over_all_sets_of_places(self):
        for web in walked_webs(10):
            told = counted(web)
            self.assertIsInstance(told, list)
            self.assertEqual(told, plain_counted(web), repr(web))

    def test_written_out(self):
        self.assertEqual(counted((0, ())), [1])
        self.assertEqual(counted((1, ())), [1, 1])
        self.assertEqual(counted(loose(10)), [1, 10])
        self.assertEqual(counted(ring(10)), [1, 10, 10])
        self.assertEqual(counted(BOWTIE), [1, 5, 6, 2])
        self.assertEqual(counted(whole(10)), [1, 10, 45, 120, 210, 252, 210, 120, 45, 10, 1])

    def test_a_new_list_at_each_call(self):
        told = counted(BOWTIE)
        told.append(7)
        told[0] = 9
        self.assertEqual(counted(BOWTIE), [1, 5, 6, 2])


if __name__ == "__main__":
    unittest.main()
