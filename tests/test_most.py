import unittest

from reckonings import grown_most, plain_counted, plain_full_knots, plain_most, remembered_most
from samples import all_pairs, clumps, halves, loose, mixed, ring, star, walked_webs, web_of, whole
from tiefold.knots import counted, full_knots, is_knot
from tiefold.most import most
from tiefold.webs import part, turned


def unlike_rests(n, k):
    return web_of(n, [(a, b) for a, b in all_pairs(n) if a % k != b % k])


class Most(unittest.TestCase):
    def check(self, web, many):
        told = most(web)
        self.assertIs(type(told), tuple, repr(web))
        self.assertEqual(len(told), 2, repr(web))
        self.assertIs(type(told[0]), int, repr(web))
        self.assertEqual(told[0], many, repr(web))
        self.assertIs(is_knot(web, told[1]), True, repr((web, told)))
        self.assertEqual(len(told[1]), many, repr((web, told)))

    def test_against_a_walk_over_all_sets_of_places(self):
        for web in walked_webs(10):
            self.check(web, plain_most(web))

    def test_against_all_knots_of_great_webs_drawn_by_a_rule(self):
        for n in (11, 16, 20, 24):
            for seed in range(10):
                web = mixed(n, seed)
                self.check(web, grown_most(web))
                self.check(turned(web), remembered_most(turned(web)))

    def test_the_greatest_full_knot_and_the_last_count(self):
        for web in walked_webs(8):
            many = most(web)[0]
            self.assertEqual(many, max(len(knot) for knot in full_knots(web)))
            self.assertEqual(many, len(counted(web)) - 1)
            self.assertEqual(many, max(len(knot) for knot in plain_full_knots(web)))
            self.assertEqual(many, len(plain_counted(web)) - 1)

    def test_none_and_one_place(self):
        self.assertEqual(most((0, ())), (0, ()))
        self.assertEqual(most((1, ())), (1, (0,)))

    def test_shapes_of_every_number_of_places(self):
        for n in range(2, 25):
            self.check(loose(n), 1)
            self.check(whole(n), n)
            self.check(ring(n), 3 if n == 3 else 2)
            self.check(turned(ring(n)), 1 if n == 3 else n // 2)
            self.check(halves(n), 2)
            self.check(turned(halves(n)), (n + 1) // 2)
            self.check(star(n), 2)
            self.check(turned(star(n)), n - 1)
            self.check(clumps(n), min(n, 3))
            self.check(turned(clumps(n)), (n + 2) // 3)

    def test_all_places_tied(self):
        self.assertEqual(most(whole(24)), (24, tuple(range(24))))
        self.assertEqual(most(whole(26)), (26, tuple(range(26))))

    def test_all_tied_but_some(self):
        pairs = all_pairs(24)
        for lost in (0, 137, 275):
            self.check(web_of(24, pairs[:lost] + pairs[lost + 1:]), 23)
        self.check(web_of(24, [pair for pair in pairs if pair not in ((0, 1), (1, 2), (2, 3), (0, 3))]), 22)

    def test_places_tied_where_their_rests_are_unlike(self):
        for k in range(1, 25):
            self.check(unlike_rests(24, k), k)

    def test_each_place_apart_from_a_few(self):
        # There is much branching here, as no place can be taken outright at first.
        for step in range(1, 12):
            for other in (step + 1, 12):
                steps = [(a, (a + by) % 24) for a in range(24) for by in (step, other)]
                web = turned(web_of(24, [tuple(sorted(pair)) for pair in steps]))
                self.check(web, remembered_most(web))

    def test_parts_of_webs(self):
        for seed in range(5):
            web = mixed(24, seed)
            for places in ([], [23], list(range(0, 24, 3)), list(range(12)), list(range(1, 24, 2))):
                some = part(web, places)
                self.check(some, grown_most(some))

    def test_a_knot_hidden_among_other_ties(self):
        hidden = (1, 4, 6, 9, 13, 17, 18, 22, 23)
        pairs = [(a, b) for a, b in all_pairs(24) if a in hidden and b in hidden]
        self.check(web_of(24, pairs), 9)
        self.check(web_of(24, pairs + list(star(24)[1])), 10)
        self.check(web_of(24, pairs + list(halves(24)[1])), grown_most(web_of(24, pairs + list(halves(24)[1]))))


if __name__ == "__main__":
    unittest.main()
