import unittest

from reckonings import grown_forcing, plain_apart_sets, plain_knots, plain_most, remembered_most
from samples import all_pairs, all_webs, loose, mixed, numbers, web_of, whole
from tiefold.forced import even_web, forcing, most_ties
from tiefold.knots import is_knot
from tiefold.most import most
from tiefold.papers import settled
from tiefold.webs import is_web, turned

KNOWN = {(1, 1): 1, (1, 2): 1, (1, 3): 1, (1, 4): 1, (2, 2): 2, (2, 3): 3, (2, 4): 4, (3, 3): 6, (3, 4): 9}


def asked():
    """All that forcing is asked of, in both orders."""
    return sorted(set(KNOWN) | {(b, a) for a, b in KNOWN})


class EvenWeb(unittest.TestCase):
    def test_tie_by_tie(self):
        for n in range(25):
            for k in range(1, 25):
                web = even_web(n, k)
                self.assertIs(is_web(web), True, (n, k))
                self.assertEqual(web, web_of(n, [(i, j) for i, j in all_pairs(n) if (j - i) % k != 0]), (n, k))

    def test_written_out(self):
        self.assertEqual(even_web(0, 1), (0, ()))
        self.assertEqual(even_web(1, 24), (1, ()))
        self.assertEqual(even_web(4, 2), (4, ((0, 1), (0, 3), (1, 2), (2, 3))))
        self.assertEqual(even_web(24, 1), loose(24))
        self.assertEqual(even_web(24, 24), whole(24))
        self.assertEqual(even_web(3, 24), whole(3))

    def test_no_knot_of_one_more(self):
        for n in range(25):
            for k in range(1, 25):
                self.assertEqual(most(even_web(n, k))[0], min(n, k), (n, k))
        for n in range(9):
            for k in range(1, 10):
                self.assertEqual(plain_most(even_web(n, k)), min(n, k), (n, k))

    def test_a_paper_tells_so(self):
        for n in range(17):
            for k in (1, 2, 3, 5, 8, 15, 16):
                self.assertEqual(settled(even_web(n, k), k + 1)[0], "none", (n, k))
                self.assertEqual(settled(even_web(n, k), min(n, k))[0], "knot", (n, k))

    def test_one_more_tie_forces_a_knot(self):
        for n in range(10):
            for k in range(1, n):
                web = even_web(n, k)
                for pair in all_pairs(n):
                    if pair not in web[1]:
                        self.assertEqual(remembered_most(web_of(n, web[1] + (pair,))), k + 1, (n, k, pair))


class MostTies(unittest.TestCase):
    def test_counted(self):
        for n in range(25):
            for k in range(1, 25):
                told = most_ties(n, k)
                self.assertIs(type(told), int)
                self.assertEqual(told, len(even_web(n, k)[1]), (n, k))
                sizes = [len(range(rest, n, k)) for rest in range(k)]
                self.assertEqual(told, (n * n - sum(size * size for size in sizes)) // 2, (n, k))

    def test_written_out(self):
        self.assertEqual([most_ties(n, 2) for n in range(8)], [0, 0, 1, 2, 4, 6, 9, 12])
        self.assertEqual([most_ties(6, k) for k in range(1, 8)], [0, 9, 12, 13, 14, 15, 15])
        self.assertEqual(most_ties(24, 24), 276)
        self.assertEqual(most_ties(24, 23), 275)
        self.assertEqual(most_ties(24, 1), 0)

    def test_the_most_of_all_webs_without_such_a_knot(self):
        for n in range(6):
            webs = [(plain_most(web), len(web[1])) for web in all_webs(n)]
            for k in range(1, 8):
                self.assertEqual(most_ties(n, k), max(ties for many, ties in webs if many <= k), (n, k))

    def test_a_web_with_more_ties_has_a_knot_of_one_more(self):
        for n in range(6):
            for web in all_webs(n):
                for k in range(1, n + 2):
                    if len(web[1]) > most_ties(n, k):
                        self.assertGreaterEqual(most(web)[0], k + 1, repr((web, k)))
        for n in (8, 12, 16, 24):
            for seed in range(20):
                web = mixed(n, seed)
                for one in (web, turned(web)):
                    for k in range(1, n):
                        if len(one[1]) > most_ties(n, k):
                            self.assertGreaterEqual(most(one)[0], k + 1, repr((one, k)))

    def test_webs_of_just_one_tie_more(self):
        drawn = numbers(5)
        for n in (6, 10, 16):
            for k in range(1, n):
                pairs = sorted(all_pairs(n), key=lambda pair: (next(drawn) % 1000, pair))
                web = web_of(n, pairs[:most_ties(n, k) + 1])
                if len(web[1]) > most_ties(n, k):
                    told = settled(web, k + 1)
                    self.assertEqual(told[0], "knot", repr((web, k)))
                    self.assertIs(is_knot(web, told[1]), True)


class Forcing(unittest.TestCase):
    def check(self, a, b, wanted):
        told = forcing(a, b)
        about = repr((a, b, told))
        self.assertIs(type(told), tuple, about)
        self.assertEqual(len(told), 2, about)
        many, web = told
        self.assertIs(type(many), int, about)
        self.assertEqual(many, wanted, about)
        self.assertIs(is_web(web), True, about)
        self.assertEqual(web[0], many - 1, about)
        return web

    def test_the_known_numbers(self):
        for a, b in asked():
            self.check(a, b, KNOWN[(min(a, b), max(a, b))])

    def test_against_growing_all_webs_that_have_neither(self):
        for a, b in asked():
            self.check(a, b, grown_forcing(a, b))

    def test_the_web_has_neither(self):
        for a, b in asked():
            web = forcing(a, b)[1]
            self.assertLess(max(len(knot) for knot in plain_knots(web)), a, (a, b))
            self.assertLess(max(len(apart) for apart in plain_apart_sets(web)), b, (a, b))
            self.assertEqual(settled(web, a)[0], "none")
            self.assertEqual(settled(turned(web), b)[0], "none")

    def test_each_web_of_so_many_places_has_one_or_the_other(self):
        for a, b in asked():
            many = forcing(a, b)[0]
            if many <= 4:
                for web in all_webs(many):
                    self.assertTrue(plain_most(web) >= a or max(map(len, plain_apart_sets(web))) >= b, repr((web, a, b)))
        for seed in range(200):
            web = mixed(9, seed)
            self.assertTrue(most(web)[0] >= 3 or most(turned(web))[0] >= 4, repr(web))
            self.assertTrue(most(web)[0] >= 4 or most(turned(web))[0] >= 3, repr(web))

    def test_somewhat_beyond(self):
        for a, b, many in ((1, 5, 1), (5, 1, 1), (2, 5, 5), (5, 2, 5), (4, 4, 18), (3, 5, 14), (5, 3, 14)):
            web = self.check(a, b, many)
            self.assertLess(remembered_most(web), a, (a, b))
            self.assertLess(remembered_most(turned(web)), b, (a, b))


if __name__ == "__main__":
    unittest.main()
