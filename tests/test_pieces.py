import unittest
from itertools import product

from reckonings import plain_is_hueing, remembered_most
from samples import all_pairs, loose, numbers, web_of, whole
from tiefold.chains import web_of_order
from tiefold.hues import is_hueing
from tiefold.knots import is_knot
from tiefold.most import most
from tiefold.papers import is_paper
from tiefold.pieces import pieces_told, web_of_pieces
from tiefold.webs import is_web, turned

BIG = 10 ** 60 - 1


def plain_web(pieces):
    return web_of(len(pieces), [(i, j) for i, j in all_pairs(len(pieces))
                                if max(pieces[i][0], pieces[j][0]) < min(pieces[i][1], pieces[j][1])])


def drawn_pieces(many, span, seed):
    """Pieces without any pattern, the same ones each time, that begin within so many numbers."""
    drawn = numbers(seed)
    pieces = []
    for _ in range(many):
        start = next(drawn) % span - span // 2
        pieces.append((start, start + 1 + next(drawn) % (1 + span // 3)))
    return pieces


def all_samples():
    """Rows of pieces of many sorts: none, one, equal ones, ones that touch, lie within one another or far off."""
    found = [[], [(0, 1)], [(-5, 7)], [(0, 1)] * 2, [(0, 1)] * 12, [(3, 9)] * 5 + [(9, 10)] * 6, [(0, 5), (5, 9)],
             [(5, 9), (0, 5)], [(0, 5), (5, 9), (4, 6)], [(i, i + 1) for i in range(12)], [(i, i + 2) for i in range(12)],
             [(i, 24 - i) for i in range(12)], [(-i, i + 1) for i in range(12)], [(12 - i, 13 - i) for i in range(12)],
             [(0, 100), (1, 2), (3, 4), (5, 6)], [(1, 2), (3, 4), (5, 6), (0, 100)], [(0, 10), (2, 3), (2, 3), (9, 11)],
             [(-BIG, BIG), (-BIG, 1 - BIG), (BIG - 1, BIG), (0, 1)], [(-BIG, 0), (0, BIG), (-1, 1)],
             [(BIG - 2, BIG - 1), (BIG - 1, BIG), (BIG - 2, BIG)], [(-3, -1), (-2, 0), (-1, 1)]]
    for many in range(13):
        for span in (1, 2, 4, 8, 20, 1000, BIG // 7):
            found.append(drawn_pieces(many, span, many + span % 97))
    return found


def all_small():
    """All rows of at most three pieces between 0 and 4."""
    pieces = [(start, end) for start in range(4) for end in range(start + 1, 5)]
    return [list(row) for many in range(4) for row in product(pieces, repeat=many)]


class WebOfPieces(unittest.TestCase):
    def test_pair_by_pair(self):
        for pieces in all_samples() + all_small():
            web = web_of_pieces(pieces)
            self.assertIs(is_web(web), True, repr(pieces))
            self.assertEqual(web, plain_web(pieces), repr(pieces))

    def test_written_out(self):
        self.assertEqual(web_of_pieces([]), (0, ()))
        self.assertEqual(web_of_pieces([(4, 9)]), (1, ()))
        self.assertEqual(web_of_pieces([(0, 2), (2, 3)]), (2, ()))
        self.assertEqual(web_of_pieces([(2, 3), (0, 2)]), (2, ()))
        self.assertEqual(web_of_pieces([(0, 3), (2, 3)]), (2, ((0, 1),)))
        self.assertEqual(web_of_pieces([(2, 3), (0, 3)]), (2, ((0, 1),)))
        self.assertEqual(web_of_pieces([(0, 9), (2, 3), (3, 4)]), (3, ((0, 1), (0, 2))))
        self.assertEqual(web_of_pieces([(1, 2)] * 12), whole(12))
        self.assertEqual(web_of_pieces([(i, i + 1) for i in range(12)]), loose(12))

    def test_turned_it_is_that_of_the_order_of_pieces_that_end_ahead_of_others(self):
        for pieces in all_samples() + all_small():
            many = len(pieces)
            ahead = [(i, j) for i in range(many) for j in range(many) if pieces[i][1] <= pieces[j][0]]
            if many <= 10:
                self.assertEqual(turned(web_of_pieces(pieces)), web_of_order(many, ahead), repr(pieces))


class PiecesTold(unittest.TestCase):
    def check(self, pieces):
        handed = list(pieces)
        told = pieces_told(handed)
        about = repr((pieces, told))
        self.assertEqual(repr(handed), repr(list(pieces)), about)
        self.assertIs(type(told), tuple, about)
        self.assertEqual(len(told), 4, about)
        many, at, knot, hueing = told
        web = plain_web(pieces)
        self.assertIs(type(many), int, about)
        self.assertEqual(many, remembered_most(web), about)
        self.assertIs(type(at), int, about)
        self.assertEqual(repr(knot), repr(tuple(i for i in range(len(pieces)) if pieces[i][0] <= at < pieces[i][1])), about)
        self.assertEqual(len(knot), many, about)
        self.assertIs(is_knot(web, knot), True, about)
        self.assertIs(plain_is_hueing(web, hueing), True, about)
        self.assertIs(is_hueing(web, hueing), True, about)
        self.assertEqual(len(set(hueing)), many, about)

    def test_samples(self):
        for pieces in all_samples():
            self.check(pieces)

    def test_all_small_rows(self):
        for pieces in all_small():
            self.check(pieces)

    def test_drawn_by_a_rule(self):
        for seed in range(200):
            self.check(drawn_pieces(12, 12, seed))
            self.check(drawn_pieces(9, 30, seed))

    def test_no_pieces(self):
        told = pieces_told([])
        self.assertIs(type(told[1]), int)
        self.assertEqual((told[0], told[2], told[3]), (0, (), ()))

    def test_where_the_order_of_hues_matters(self):
        # Along the order in which they stand here the last one would need a third hue.
        self.check([(0, 2), (4, 6), (1, 4), (2, 5)])
        self.check([(0, 1), (3, 4), (0, 2), (2, 4), (1, 3)])
        self.assertEqual(pieces_told([(0, 2), (5, 6), (1, 4), (3, 6)])[0], 2)

    def test_somewhat_beyond_twelve_pieces(self):
        self.check(drawn_pieces(16, 40, 3))
        self.check([(i, i + 3) for i in range(20)])

    def test_the_hueing_is_a_paper(self):
        for pieces in all_samples():
            if len(pieces) <= 8:
                told = pieces_told(pieces)
                self.assertIs(is_paper(web_of_pieces(pieces), told[0] + 1, ("hues", told[3])), True, repr(pieces))

    def test_the_most_is_that_of_the_web(self):
        for pieces in all_samples():
            self.assertEqual(pieces_told(pieces)[0], most(web_of_pieces(pieces))[0])

    def test_the_handed_list_is_not_kept(self):
        pieces = [(0, 2), (1, 3)]
        web = web_of_pieces(pieces)
        told = pieces_told(pieces)
        pieces.append((0, 9))
        pieces[0] = (7, 8)
        self.assertEqual(web, (2, ((0, 1),)))
        self.assertEqual((told[0], told[2]), (2, (0, 1)))
        self.check(pieces)


if __name__ == "__main__":
    unittest.main()
