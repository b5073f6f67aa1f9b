import unittest
from itertools import product

from reckonings import plain_knots, remembered_most
from samples import all_webs, are_tied, clumps, loose, mixed, ring, shapes, star, web_of, webs_up_to, whole
from tiefold.joined import beside, by_pairs, put_in, wholly_tied
from tiefold.most import most
from tiefold.webs import is_web, turned

NONE = (0, ())
ONE = (1, ())
TIE = (2, ((0, 1),))


def where(n, tied):
    return web_of(n, [(a, b) for a in range(n) for b in range(a + 1, n) if tied(a, b)])


def homes(webs):
    """Of each place of webs that stand one behind the other: which web it is of, and which place there."""
    return [(at, place) for at, web in enumerate(webs) for place in range(web[0])]


def plain_put_in(web, webs):
    spots = homes(webs)

    def tied(a, b):
        (i, p), (j, q) = spots[a], spots[b]
        return are_tied(webs[i], p, q) if i == j else are_tied(web, i, j)

    return where(len(spots), tied)


def rows_of_webs():
    """Lists of webs of at most 24 places together: none, of no places, equal ones, many and few."""
    some = [NONE, ONE, loose(2), TIE, ring(3), ring(5), mixed(4, 1)]
    rows = [[], [NONE], [NONE] * 24, [ONE], [ONE] * 24, [TIE] * 12, [ring(5)] * 4, [whole(24)], [loose(24)], [ring(24)],
            [whole(12), whole(12)], [loose(12), whole(12)], [NONE] * 23 + [mixed(24, 2)], [ONE, NONE] * 12,
            [clumps(7), NONE, clumps(7), star(6)], [mixed(n, n) for n in range(7)], [mixed(6, 3)] * 4]
    return rows + [list(row) for many in (1, 2, 3) for row in product(some, repeat=many)]


class Joined(unittest.TestCase):
    def same(self, told, wanted, about):
        self.assertIs(is_web(told), True, repr(about))
        self.assertEqual(repr(told), repr(wanted), repr(about))


class Beside(Joined):
    def test_tie_by_tie(self):
        for webs in rows_of_webs():
            spots = homes(webs)
            wanted = where(len(spots), lambda a, b: spots[a][0] == spots[b][0]
                           and are_tied(webs[spots[a][0]], spots[a][1], spots[b][1]))
            self.same(beside(webs), wanted, webs)

    def test_written_out(self):
        self.assertEqual(beside([]), (0, ()))
        self.assertEqual(beside([TIE]), TIE)
        self.assertEqual(beside([TIE, TIE]), (4, ((0, 1), (2, 3))))
        self.assertEqual(beside([ONE, TIE, NONE, (3, ((0, 2),))]), (6, ((1, 2), (3, 5))))
        self.assertEqual(beside([ONE] * 24), loose(24))

    def test_the_most_is_the_greatest(self):
        for webs in rows_of_webs():
            wanted = max([most(web)[0] for web in webs], default=0)
            self.assertEqual(most(beside(webs))[0], wanted, repr(webs))
            self.assertEqual(remembered_most(beside(webs)), wanted, repr(webs))


class WhollyTied(Joined):
    def test_tie_by_tie(self):
        for webs in rows_of_webs():
            spots = homes(webs)
            wanted = where(len(spots), lambda a, b: spots[a][0] != spots[b][0]
                           or are_tied(webs[spots[a][0]], spots[a][1], spots[b][1]))
            self.same(wholly_tied(webs), wanted, webs)

    def test_written_out(self):
        self.assertEqual(wholly_tied([]), (0, ()))
        self.assertEqual(wholly_tied([TIE]), TIE)
        self.assertEqual(wholly_tied([loose(2), loose(2)]), (4, ((0, 2), (0, 3), (1, 2), (1, 3))))
        self.assertEqual(wholly_tied([ONE, NONE, (3, ((0, 2),))]), (4, ((0, 1), (0, 2), (0, 3), (1, 3))))
        self.assertEqual(wholly_tied([ONE] * 24), whole(24))

    def test_equal_webs(self):
        web = loose(3)
        self.assertEqual(wholly_tied([web, web]), (6, tuple((a, b) for a in range(3) for b in range(3, 6))))
        self.assertEqual(wholly_tied([web] * 3)[0], 9)
        self.assertEqual(len(wholly_tied([web] * 3)[1]), 27)

    def test_the_most_is_the_sum(self):
        for webs in rows_of_webs():
            wanted = sum(most(web)[0] for web in webs)
            self.assertEqual(most(wholly_tied(webs))[0], wanted, repr(webs))
            self.assertEqual(remembered_most(wholly_tied(webs)), wanted, repr(webs))

    def test_turned_it_is_the_turned_ones_beside(self):
        for webs in rows_of_webs():
            self.assertEqual(turned(wholly_tied(webs)), beside([turned(web) for web in webs]), repr(webs))


class PutIn(Joined):
    def samples(self):
        """Webs, and for each of its places one."""
        some = [NONE, ONE, loose(2), TIE, ring(3)]
        found = [(web, list(row)) for web in webs_up_to(3) for row in product(some, repeat=web[0])]
        found += [(web, [mixed(4, place) for place in range(web[0])]) for web in shapes(6)]
        found += [(web, [ring(5)] * 4) for web in all_webs(4)[::5]]
        found += [(web, [ONE] * 24) for web in shapes(24)] + [(web, [NONE] * 24) for web in shapes(24)[:3]]
        found += [(ring(5), [mixed(n, 2) for n in (4, 0, 5, 1, 6)]), (ONE, [mixed(24, 1)]), (TIE, [whole(12), whole(12)])]
        return found

    def test_tie_by_tie(self):
        for web, webs in self.samples():
            self.same(put_in(web, webs), plain_put_in(web, webs), (web, webs))

    def test_written_out(self):
        self.assertEqual(put_in(NONE, []), NONE)
        self.assertEqual(put_in(ONE, [TIE]), TIE)
        self.assertEqual(put_in(TIE, [loose(2), ONE]), (3, ((0, 2), (1, 2))))
        self.assertEqual(put_in((3, ((0, 2),)), [TIE, loose(2), ONE]), (5, ((0, 1), (0, 4), (1, 4))))
        self.assertEqual(put_in((3, ((0, 1), (1, 2))), [ONE, NONE, ONE]), loose(2))

    def test_one_place_for_each_leaves_it_as_it_is(self):
        for web in webs_up_to(4) + shapes(24):
            self.assertEqual(put_in(web, [ONE] * web[0]), web)

    def test_loose_and_whole_webs_put_them_beside_and_tie_them_wholly(self):
        for webs in rows_of_webs():
            self.assertEqual(put_in(loose(len(webs)), webs), beside(webs))
            self.assertEqual(put_in(whole(len(webs)), webs), wholly_tied(webs))

    def test_the_most_is_the_greatest_sum_over_a_knot(self):
        for web, webs in self.samples():
            if web[0] <= 6:
                parts = [remembered_most(inner) for inner in webs]
                wanted = max(sum(parts[place] for place in knot) for knot in plain_knots(web))
                self.assertEqual(most(put_in(web, webs))[0], wanted, repr((web, webs)))
                self.assertEqual(remembered_most(put_in(web, webs)), wanted, repr((web, webs)))


class ByPairs(Joined):
    def samples(self):
        found = [(web, other) for web in webs_up_to(3) for other in webs_up_to(3)]
        found += [(web, other) for web in shapes(4) for other in shapes(6)]
        found += [(web, other) for web in shapes(12) for other in (loose(2), TIE)]
        found += [(web, ONE) for web in shapes(24)] + [(ONE, web) for web in shapes(24)]
        return found + [(NONE, ring(24)), (ring(24), NONE), (NONE, NONE), (ring(5), mixed(4, 1)), (TIE, whole(12))]

    def test_tie_by_tie(self):
        for web, other in self.samples():
            n, m = web[0], other[0]

            def tied(a, b):
                (i, j), (k, h) = divmod(a, m), divmod(b, m)
                return (i == k or are_tied(web, i, k)) and (j == h or are_tied(other, j, h))

            self.same(by_pairs(web, other), where(n * m, tied), (web, other))

    def test_written_out(self):
        self.assertEqual(by_pairs(NONE, NONE), NONE)
        self.assertEqual(by_pairs(ONE, TIE), TIE)
        self.assertEqual(by_pairs(TIE, ONE), TIE)
        self.assertEqual(by_pairs(TIE, TIE), whole(4))
        self.assertEqual(by_pairs(TIE, loose(3)), (6, ((0, 3), (1, 4), (2, 5))))
        self.assertEqual(by_pairs(loose(3), TIE), (6, ((0, 1), (2, 3), (4, 5))))
        self.assertEqual(by_pairs(loose(4), loose(6)), loose(24))
        self.assertEqual(by_pairs(whole(4), whole(6)), whole(24))

    def test_the_most_is_the_product(self):
        for web, other in self.samples():
            wanted = most(web)[0] * most(other)[0]
            self.assertEqual(most(by_pairs(web, other))[0], wanted, repr((web, other)))
            self.assertEqual(remembered_most(by_pairs(web, other)), wanted, repr((web, other)))


class HandedIn(unittest.TestCase):
    def test_what_is_handed_in_stays_and_is_not_kept(self):
        for deed in (beside, wholly_tied, lambda webs: put_in(ring(3), webs)):
            webs = [TIE, NONE, loose(3)]
            told = deed(webs)
            self.assertEqual(webs, [TIE, NONE, loose(3)])
            shown = repr(told)
            webs[0] = whole(5)
            webs.pop()
            self.assertEqual(repr(told), shown)
            self.assertEqual(deed([TIE, NONE, loose(3)]), told)


if __name__ == "__main__":
    unittest.main()
