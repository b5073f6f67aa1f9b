"""What holds over the whole program: its modules, asked about the same webs, agree with one another."""

import unittest
from fractions import Fraction
from itertools import combinations

from samples import loose, mixed, numbers, ring, shapes, spoiled, webs_up_to, whole
from tiefold.chains import chains_told, web_of_order
from tiefold.errors import TieError
from tiefold.forced import even_web, forcing, most_ties
from tiefold.hues import fewest_hues, hued_along, is_hueing
from tiefold.joined import beside, by_pairs, put_in, wholly_tied
from tiefold.kept import Kept
from tiefold.knots import counted, full_knots, is_knot
from tiefold.most import most
from tiefold.papers import is_paper, settled
from tiefold.pieces import pieces_told, web_of_pieces
from tiefold.shares import are_weights, is_cover, shares
from tiefold.webs import is_web, moved, part, turned
from tiefold.weights import heaviest, is_heavy_paper, settled_by_weight


def told_webs():
    """Webs of at most eight places from each function that tells one."""
    drawn = numbers(31)
    found = webs_up_to(3) + shapes(6) + [turned(web) for web in shapes(7)]
    for _ in range(20):
        pieces = [(start, start + 1 + next(drawn) % 6) for start in [next(drawn) % 12 for _ in range(7)]]
        pairs = [(a, b) for a, b in combinations(range(7), 2) if next(drawn) % 3 == 0]
        found += [web_of_pieces(pieces), web_of_order(7, pairs)]
    found += [beside([ring(5), whole(3)]), wholly_tied([ring(5), loose(2)]), put_in(ring(4), [loose(2), whole(2)] * 2),
              by_pairs(ring(4), whole(2)), by_pairs(loose(2), ring(4)), even_web(8, 3), even_web(7, 2)]
    found += [forcing(3, 3)[1], forcing(3, 4)[1], forcing(4, 3)[1], moved(mixed(7, 2), [6, 4, 2, 0, 1, 3, 5]),
              part(mixed(12, 3), [0, 2, 3, 5, 7, 10, 11])]
    return found


class Whole(unittest.TestCase):
    def test_each_told_web_is_one(self):
        for web in told_webs():
            self.assertIs(is_web(web), True, repr(web))

    def test_either_a_knot_or_a_paper_and_never_both(self):
        for web in told_webs():
            many = most(web)[0]
            for k in list(range(web[0] + 3)) + [10 ** 30]:
                word, told = settled(web, k)
                self.assertEqual(word, "knot" if k <= many else "none", repr((web, k)))
                if word == "knot":
                    self.assertIs(is_knot(web, told), True)
                    # What is a paper for one more place is none where there is a knot.
                    paper = settled(web, many + 1)[1]
                    for thing in [paper, ("few",), ("hues", fewest_hues(web)[1])]:
                        self.assertIs(is_paper(web, k, thing), False, repr((web, k, thing)))
                else:
                    self.assertIs(is_paper(web, k, told), True, repr((web, k, told)))

    def test_nothing_near_a_paper_is_one_where_there_is_a_knot(self):
        for web in webs_up_to(3) + [ring(5), ring(7)]:
            many = most(web)[0]
            for thing in spoiled(settled(web, many + 1)[1]):
                self.assertIs(is_paper(web, many, thing), False, repr((web, thing)))

    def test_one_worth_between_the_most_and_the_fewest_hues(self):
        for web in told_webs():
            worth, cover, weights = shares(web)
            self.assertIs(is_cover(web, cover), True)
            self.assertIs(are_weights(web, weights), True)
            self.assertEqual(sum(Fraction(*share) for places, share in cover), Fraction(*worth))
            self.assertEqual(sum(Fraction(*weight) for weight in weights), Fraction(*worth))
            self.assertLessEqual(most(web)[0], Fraction(*worth), repr(web))
            self.assertLessEqual(Fraction(*worth), fewest_hues(web)[0], repr(web))

    def test_the_most_told_in_several_ways(self):
        for web in told_webs():
            many, knot = most(web)
            self.assertEqual(many, len(knot))
            self.assertEqual(many, max(len(one) for one in full_knots(web)))
            self.assertEqual(many, len(counted(web)) - 1)
            self.assertEqual(many, heaviest(web, (1,) * web[0])[0])
            self.assertLessEqual(many, len(set(hued_along(web, list(range(web[0]))))))

    def test_with_weights(self):
        drawn = numbers(17)
        for web in told_webs():
            weights = tuple(next(drawn) % 1001 for _ in range(web[0]))
            weight, knot = heaviest(web, weights)
            self.assertIs(is_knot(web, knot), True)
            self.assertEqual(sum(weights[place] for place in knot), weight)
            word, paper = settled_by_weight(web, weights, weight)
            self.assertEqual(word, "none", repr((web, weights)))
            self.assertIs(is_heavy_paper(web, weights, weight, paper), True)
            if weight > 0:
                self.assertIs(is_heavy_paper(web, weights, weight - 1, paper), False)
                self.assertEqual(settled_by_weight(web, weights, weight - 1)[0], "knot")

    def test_kept(self):
        for web in told_webs():
            kept = Kept(web[0])
            for pair in web[1]:
                kept.tie(*pair)
            for _ in range(len(web[1]) + 1):
                many = most(kept.web())[0]
                self.assertEqual(kept.most(), many)
                self.assertEqual(len(kept.knot()), many)
                self.assertIs(is_knot(kept.web(), kept.knot()), True)
                self.assertIs(is_paper(kept.web(), many + 1, kept.paper()), True)
                kept.back()
            self.assertEqual(kept.web(), loose(web[0]))

    def test_pieces_and_orders_have_knots_and_hueings_of_the_same_count(self):
        drawn = numbers(23)
        for many in range(9):
            for _ in range(10):
                pieces = [(start, start + 1 + next(drawn) % 9) for start in [next(drawn) % 15 for _ in range(many)]]
                told = pieces_told(pieces)
                web = web_of_pieces(pieces)
                self.assertEqual((most(web)[0], fewest_hues(web)[0]), (told[0], told[0]), repr(pieces))
                self.assertEqual(shares(web)[0], (told[0], 1), repr(pieces))
                self.assertIs(is_hueing(web, told[3]), True)
                ahead = [(i, j) for i in range(many) for j in range(many) if pieces[i][1] <= pieces[j][0]]
                told = chains_told(many, ahead)
                web = web_of_order(many, ahead)
                self.assertEqual((most(web)[0], fewest_hues(web)[0]), (told[0], told[0]), repr(ahead))
                self.assertEqual(shares(web)[0], (told[0], 1), repr(ahead))
                self.assertIs(is_hueing(web, told[2]), True)

    def test_joined_webs(self):
        webs = [ring(5), whole(3), loose(4), mixed(5, 3)]
        parts = [most(web)[0] for web in webs]
        self.assertEqual(most(beside(webs))[0], max(parts))
        self.assertEqual(most(wholly_tied(webs))[0], sum(parts))
        for web in shapes(4):
            # A knot of the web with others put in is one over a knot of the web, with the others' most as weights.
            self.assertEqual(most(put_in(web, webs))[0], heaviest(web, tuple(parts))[0], repr(web))
            self.assertEqual(most(by_pairs(web, ring(5)))[0], most(web)[0] * 2, repr(web))

    def test_more_ties_force_a_knot(self):
        for web in told_webs():
            for k in range(1, 9):
                if len(web[1]) > most_ties(web[0], k):
                    self.assertEqual(settled(web, k + 1)[0], "knot", repr((web, k)))

    def test_every_web_of_enough_places_has_one_or_the_other(self):
        for a, b in ((2, 3), (3, 3), (3, 4), (4, 3)):
            many = forcing(a, b)[0]
            for seed in range(50):
                web = mixed(many, seed)
                words = (settled(web, a)[0], settled(turned(web), b)[0])
                self.assertIn("knot", words, repr((a, b, web)))

    def test_each_refusal_is_a_tie_error(self):
        for deed in (lambda: Kept(2).tie(0, 2), lambda: Kept(2).loosen(0, 1), lambda: web_of_order(1, [(0, 0)])):
            self.assertRaises(TieError, deed)
            self.assertRaises(ValueError, deed)


if __name__ == "__main__":
    unittest.main()
