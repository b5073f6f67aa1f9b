import unittest

from reckonings import plain_below, plain_is_hueing, remembered_most
from samples import all_pairs, loose, numbers, web_of, whole
from tiefold.chains import chains_told, web_of_order
from tiefold.errors import Round, TieError
from tiefold.hues import fewest_hues, is_hueing
from tiefold.knots import is_knot
from tiefold.most import most
from tiefold.papers import is_paper
from tiefold.webs import is_web, turned


def drawn_order(n, seed, per_eight):
    """Pairs that never go round, below and above mixed up, some more than once."""
    drawn = numbers(seed)
    row = sorted(range(n), key=lambda place: (next(drawn) % 100, place))
    pairs = [(row[i], row[j]) for i, j in all_pairs(n) if next(drawn) % 8 < per_eight]
    pairs += [pair for pair in pairs if next(drawn) % 4 == 0]
    return sorted(pairs, key=lambda pair: (next(drawn) % 100, pair))


def drawn_pairs(n, seed, many):
    """Any pairs, that perhaps go round."""
    drawn = numbers(seed)
    return [(next(drawn) % n, next(drawn) % n) for _ in range(many)]


def all_small():
    """All orders and rounds of at most three places."""
    found = []
    for n in range(4):
        pairs = [(a, b) for a in range(n) for b in range(n)]
        found += [(n, [pair for at, pair in enumerate(pairs) if code >> at & 1]) for code in range(2 ** len(pairs))]
    return found


def all_samples():
    """Orders of none up to ten places that don't go round."""
    found = [(n, []) for n in range(11)]
    for n in range(2, 11):
        line = [(i, i + 1) for i in range(n - 1)]
        found += [(n, line), (n, line[::-1]), (n, [(b, a) for a, b in line]), (n, line * 2), (n, all_pairs(n)),
                  (n, [(0, i) for i in range(1, n)]), (n, [(i, 0) for i in range(1, n)]),
                  (n, [(i, j) for i in range(n // 2) for j in range(n // 2, n)]), (n, [(i, i + 2) for i in range(n - 2)]),
                  (n, [(a - 1, b - 1) for a in range(1, n + 1) for b in range(2 * a, n + 1, a)])]
    for n in range(1, 11):
        for per_eight in (1, 2, 3, 6):
            found += [(n, drawn_order(n, seed, per_eight)) for seed in range(6)]
    return found


def plain_web(n, below):
    return web_of(n, [(a, b) for a, b in all_pairs(n) if a in below[b] or b in below[a]])


class WebOfOrder(unittest.TestCase):
    def check(self, n, pairs):
        below = plain_below(n, pairs)
        if any(place in below[place] for place in range(n)):
            with self.assertRaises(TieError) as caught:
                web_of_order(n, pairs)
            self.assertIs(type(caught.exception), Round, repr((n, pairs)))
            return
        web = web_of_order(n, pairs)
        self.assertIs(is_web(web), True, repr((n, pairs)))
        self.assertEqual(web, plain_web(n, below), repr((n, pairs)))

    def test_against_going_down_step_by_step(self):
        for n, pairs in all_small() + all_samples():
            self.check(n, pairs)

    def test_pairs_that_perhaps_go_round(self):
        for n in range(1, 11):
            for many in (1, n // 2, n, n + 2):
                for seed in range(15):
                    self.check(n, drawn_pairs(n, seed, many))

    def test_written_out(self):
        self.assertEqual(web_of_order(0, []), (0, ()))
        self.assertEqual(web_of_order(1, []), (1, ()))
        self.assertEqual(web_of_order(10, []), loose(10))
        self.assertEqual(web_of_order(3, [(2, 1)]), (3, ((1, 2),)))
        self.assertEqual(web_of_order(3, [(2, 1), (1, 0)]), whole(3))
        self.assertEqual(web_of_order(3, [(0, 1), (2, 1)]), (3, ((0, 1), (1, 2))))
        self.assertEqual(web_of_order(10, [(i + 1, i) for i in range(9)]), whole(10))
        self.assertEqual(web_of_order(3, [(0, 1)] * 5), (3, ((0, 1),)))

    def test_round(self):
        for n in range(1, 11):
            ring = [(i, (i + 1) % n) for i in range(n)]
            for deed in (web_of_order, chains_told):
                self.assertRaises(Round, deed, n, ring)
                self.assertRaises(Round, deed, n, ring[::-1])
                self.assertRaises(Round, deed, n, ring + ring)
                self.assertRaises(Round, deed, n, [(n - 1, n - 1)])
                self.assertRaises(Round, deed, n, [(0, 0), (0, 0)])
                if n > 1:
                    deed(n, ring[:-1])
                    deed(n, ring[1:])
                    self.assertRaises(Round, deed, n, ring[1:] + [(0, 0)])

    def test_one_round_among_much_else_that_does_not_go_round(self):
        for deed in (web_of_order, chains_told):
            self.assertRaises(Round, deed, 10, [(i, i + 1) for i in range(9)] + [(7, 6)])
            self.assertRaises(Round, deed, 10, [(9, 0)] + [(i, i + 1) for i in range(9)])
            deed(10, [(i, i + 1) for i in range(9)] + [(6, 7)])

    def test_what_is_handed_in_stays(self):
        pairs = [(2, 1), (1, 0), (2, 1)]
        web = web_of_order(3, pairs)
        self.assertEqual(pairs, [(2, 1), (1, 0), (2, 1)])
        pairs.append((0, 0))
        self.assertEqual(web, whole(3))
        before = list(pairs)
        self.assertRaises(Round, web_of_order, 3, pairs)
        self.assertEqual(pairs, before)


class ChainsTold(unittest.TestCase):
    def check(self, n, pairs):
        below = plain_below(n, pairs)
        handed = list(pairs)
        if any(place in below[place] for place in range(n)):
            with self.assertRaises(TieError) as caught:
                chains_told(n, handed)
            self.assertIs(type(caught.exception), Round, repr((n, pairs)))
            self.assertEqual(handed, list(pairs))
            return
        told = chains_told(n, handed)
        about = repr((n, pairs, told))
        self.assertEqual(handed, list(pairs), about)
        self.assertIs(type(told), tuple, about)
        self.assertEqual(len(told), 3, about)
        many, chain, hueing = told
        web = plain_web(n, below)
        self.assertIs(type(many), int, about)
        self.assertEqual(many, remembered_most(web), about)
        self.assertIs(type(chain), list, about)
        self.assertEqual(len(chain), many, about)
        self.assertTrue(all(type(place) is int and place in range(n) for place in chain), about)
        for i in range(many - 1):
            self.assertIn(chain[i], below[chain[i + 1]], about)
        self.assertIs(plain_is_hueing(web, hueing), True, about)
        self.assertIs(is_hueing(web, hueing), True, about)
        self.assertEqual(len(set(hueing)), many, about)

    def test_samples(self):
        for n, pairs in all_small() + all_samples():
            self.check(n, pairs)

    def test_drawn_by_a_rule(self):
        for seed in range(100):
            self.check(10, drawn_order(10, seed, 1 + seed % 4))
            self.check(7, drawn_pairs(7, seed, 6))

    def test_written_out(self):
        self.assertEqual(chains_told(0, []), (0, [], ()))
        self.assertEqual(chains_told(1, []), (1, [0], (0,)))
        told = chains_told(3, [(2, 1), (1, 0)])
        self.assertEqual(told[:2], (3, [2, 1, 0]))
        self.assertEqual(chains_told(10, [(i + 1, i) for i in range(9)])[1], list(range(9, -1, -1)))

    def test_the_least_number_of_apart_sets_that_hold_all(self):
        for n, pairs in all_samples():
            if n <= 8:
                self.assertEqual(fewest_hues(web_of_order(n, pairs))[0], chains_told(n, pairs)[0], repr((n, pairs)))

    def test_the_chain_is_a_knot_and_the_hueing_a_paper(self):
        for n, pairs in all_samples():
            many, chain, hueing = chains_told(n, pairs)
            web = web_of_order(n, pairs)
            self.assertEqual(many, most(web)[0])
            self.assertIs(is_knot(web, tuple(sorted(chain))), True)
            if n <= 8:
                self.assertIs(is_paper(web, many + 1, ("hues", hueing)), True)

    def test_each_hue_is_an_apart_set(self):
        for n, pairs in all_samples():
            hueing = chains_told(n, pairs)[2]
            for hue in set(hueing):
                apart = tuple(place for place in range(n) if hueing[place] == hue)
                self.assertIs(is_knot(turned(web_of_order(n, pairs)), apart), True)

    def test_somewhat_beyond_ten_places(self):
        for seed in range(5):
            self.check(13, drawn_order(13, seed, 2))
        self.check(24, [(i, i + 1) for i in range(23)])

    def test_a_new_list_at_each_call(self):
        told = chains_told(3, [(0, 1), (1, 2)])
        told[1].append(7)
        told[1][0] = None
        self.assertEqual(chains_told(3, [(0, 1), (1, 2)])[1], [0, 1, 2])
        none = chains_told(0, [])
        none[1].append(0)
        self.assertEqual(chains_told(0, []), (0, [], ()))


if __name__ == "__main__":
    unittest.main()
