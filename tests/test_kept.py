import unittest
from copy import deepcopy
from itertools import permutations

from reckonings import plain_is_paper, plain_most
from samples import SIXTY, all_pairs, loose, mixed, numbers, oddities, ring, shapes, web_of, webs_up_to, whole
from tiefold.errors import Loose, NoPlace, Tied, TieError
from tiefold.kept import Kept
from tiefold.knots import is_knot
from tiefold.most import most
from tiefold.papers import is_paper

ASKED = ("web", "most", "knot", "paper")
NO_PLACES = (-1, -2, SIXTY, -SIXTY, True, False, None, "", "0", "1", (), [], (0,), [0], (0, 1), [0, 1], ((0, 1),))


class Model:
    """What a Kept should be: all webs that were, the last one first, with the deed that led there."""

    def __init__(self, n):
        self.n = n
        self.past = [(None, frozenset())]

    def ties(self):
        return self.past[-1][1]

    def most(self):
        return plain_most(web_of(self.n, self.ties()))

    def do(self, deed, ties):
        before = self.most()
        self.past.append((deed, frozenset(ties)))
        return self.most() - before

    def back(self):
        return self.past.pop()[0] if len(self.past) > 1 else None


class Held(unittest.TestCase):
    def refused(self, error, deed, *places):
        with self.assertRaises(TieError) as caught:
            deed(*places)
        self.assertIs(type(caught.exception), error, repr(places)[:200])

    def check(self, kept, web, order=ASKED):
        """All that it tells at this moment, asked in an order."""
        many = plain_most(web)
        for name in order:
            told = getattr(kept, name)()
            about = repr((web, name, told))
            if name == "web":
                self.assertEqual(repr(told), repr(web), about)
            elif name == "most":
                self.assertIs(type(told), int, about)
                self.assertEqual(told, many, about)
            elif name == "knot":
                self.assertIs(is_knot(web, told), True, about)
                self.assertEqual(len(told), many, about)
            else:
                self.assertIs(plain_is_paper(web, many + 1, told), True, about)
                self.assertIs(is_paper(web, many + 1, told), True, about)

    def tied_as(self, web):
        kept = Kept(web[0])
        for a, b in web[1]:
            kept.tie(a, b)
        return kept


class Deeds(Held):
    def test_without_ties_at_first(self):
        for n in range(10):
            for order in permutations(ASKED):
                self.check(Kept(n), loose(n), order)

    def test_no_places(self):
        kept = Kept(0)
        self.assertEqual((kept.web(), kept.most(), kept.knot()), ((0, ()), 0, ()))
        self.check(kept, loose(0))
        self.assertIsNone(kept.back())
        for a in (0, 1, None):
            self.refused(NoPlace, kept.tie, a, 0)
            self.refused(NoPlace, kept.loosen, 0, a)
        self.check(kept, loose(0))

    def test_one_place(self):
        kept = Kept(1)
        self.assertEqual((kept.web(), kept.most(), kept.knot()), ((1, ()), 1, (0,)))
        self.refused(NoPlace, kept.tie, 0, 0)
        self.refused(NoPlace, kept.tie, 0, 1)
        self.refused(NoPlace, kept.loosen, 0, 0)
        self.assertIsNone(kept.back())
        self.check(kept, loose(1))

    def test_two_places(self):
        kept = Kept(2)
        self.assertEqual(kept.tie(1, 0), 1)
        self.check(kept, (2, ((0, 1),)))
        self.assertEqual(kept.loosen(0, 1), -1)
        self.check(kept, (2, ()))
        self.assertEqual(kept.tie(0, 1), 1)
        self.assertEqual([kept.back() for _ in range(5)], ["tied", "loosened", "tied", None, None])
        self.check(kept, (2, ()))

    def test_how_much_the_most_changed(self):
        kept = Kept(4)
        told = [kept.tie(0, 1), kept.tie(1, 2), kept.tie(2, 3), kept.tie(0, 2), kept.tie(1, 3), kept.tie(0, 3),
                kept.loosen(2, 1), kept.loosen(3, 0), kept.loosen(0, 1), kept.loosen(1, 3), kept.loosen(0, 2),
                kept.loosen(3, 2)]
        # All four are tied in between; a ring of four is left after the first two loosenings.
        self.assertEqual(repr(told), "[1, 0, 0, 1, 0, 1, -1, -1, 0, 0, 0, -1]")

    def test_either_order_of_places(self):
        for pair in all_pairs(5):
            for a, b in (pair, pair[::-1]):
                for c, d in (pair, pair[::-1]):
                    kept = Kept(5)
                    self.assertEqual(kept.tie(a, b), 1)
                    self.assertEqual(kept.web(), (5, (pair,)))
                    self.refused(Tied, kept.tie, c, d)
                    self.assertEqual(kept.loosen(c, d), -1)
                    self.assertEqual(kept.web(), (5, ()))
                    self.refused(Loose, kept.loosen, a, b)

    def test_every_small_web_tied_up_and_loosened_again(self):
        for web in webs_up_to(4) + shapes(7) + shapes(9):
            kept = Kept(web[0])
            done = []
            for a, b in web[1]:
                before = plain_most(web_of(web[0], done))
                done.append((a, b))
                self.assertEqual(kept.tie(b, a), plain_most(web_of(web[0], done)) - before)
            self.check(kept, web)
            for a, b in web[1]:
                before = plain_most(web_of(web[0], done))
                done.remove((a, b))
                self.assertEqual(kept.loosen(a, b), plain_most(web_of(web[0], done)) - before)
            self.check(kept, loose(web[0]))

    def test_ties_come_rising_whatever_the_order_of_the_deeds(self):
        kept = Kept(4)
        for a, b in ((3, 2), (0, 3), (2, 1), (1, 0), (3, 1), (0, 2)):
            kept.tie(a, b)
        self.assertEqual(repr(kept.web()), repr(whole(4)))
        kept.loosen(1, 2)
        kept.tie(2, 1)
        self.assertEqual(repr(kept.web()), repr(whole(4)))

    def test_all_nine_tied(self):
        kept = self.tied_as(whole(9))
        self.check(kept, whole(9))
        self.assertEqual(kept.loosen(8, 0), -1)
        self.assertEqual(kept.loosen(0, 1), 0)
        self.assertEqual(kept.tie(0, 8), 0)
        self.check(kept, web_of(9, set(all_pairs(9)) - {(0, 1)}))

    def test_where_no_hueing_will_do(self):
        kept = self.tied_as(ring(9))
        self.check(kept, ring(9))
        self.assertEqual(kept.paper()[0], "place")

    def test_somewhat_beyond_nine_places(self):
        for web in (ring(12), mixed(11, 3), whole(10), loose(12)):
            self.check(self.tied_as(web), web)


class Back(Held):
    def test_further_and_further(self):
        kept = Kept(4)
        webs = [kept.web()]
        for deed, a, b in ((kept.tie, 0, 1), (kept.tie, 2, 1), (kept.loosen, 1, 0), (kept.tie, 0, 3), (kept.loosen, 3, 0),
                           (kept.tie, 3, 0)):
            deed(a, b)
            webs.append(kept.web())
        for word in ("tied", "loosened", "tied", "loosened", "tied", "tied"):
            self.check(kept, webs.pop())
            self.assertEqual(kept.back(), word)
            self.check(kept, webs[-1])
        self.assertEqual(webs, [(4, ())])
        for _ in range(3):
            self.assertIsNone(kept.back())
            self.check(kept, (4, ()))

    def test_what_was_undone_is_no_deed_any_more(self):
        kept = Kept(3)
        kept.tie(0, 1)
        kept.tie(1, 2)
        self.assertEqual(kept.back(), "tied")
        kept.tie(0, 2)
        kept.loosen(0, 1)
        self.assertEqual([kept.back(), kept.back()], ["loosened", "tied"])
        self.assertEqual(kept.web(), (3, ((0, 1),)))
        self.assertEqual([kept.back(), kept.back()], ["tied", None])
        self.assertEqual(kept.web(), (3, ()))

    def test_an_undone_tie_can_be_tied_again(self):
        kept = Kept(3)
        kept.tie(0, 1)
        kept.back()
        self.refused(Loose, kept.loosen, 0, 1)
        self.assertEqual(kept.tie(0, 1), 1)
        kept.loosen(0, 1)
        kept.back()
        self.refused(Tied, kept.tie, 1, 0)
        self.assertEqual(kept.loosen(0, 1), -1)

    def test_what_was_refused_is_no_deed(self):
        kept = Kept(3)
        kept.tie(0, 1)
        for deed, places in ((kept.tie, (0, 1)), (kept.tie, (0, 3)), (kept.tie, (2, 2)), (kept.loosen, (0, 2)),
                             (kept.loosen, (1, 1)), (kept.loosen, (None, 0))):
            with self.assertRaises(TieError):
                deed(*places)
        self.assertEqual([kept.back(), kept.back()], ["tied", None])
        self.check(kept, (3, ()))

    def test_none_is_told_where_nothing_was_done(self):
        for n in (0, 1, 2, 9):
            kept = Kept(n)
            self.assertIsNone(kept.back())
            self.check(kept, loose(n))


class Refused(Held):
    def test_no_place_of_anything(self):
        for web in (loose(3), ring(3), (3, ((0, 1),))):
            kept = self.tied_as(web)
            for thing in list(NO_PLACES) + [3, 4, 9] + oddities():
                if type(thing) is int and thing in range(3):
                    continue
                before = deepcopy(thing)
                for place in (0, 1, 2, thing, -1, None, True):
                    for deed in (kept.tie, kept.loosen):
                        self.refused(NoPlace, deed, thing, place)
                        self.refused(NoPlace, deed, place, thing)
                self.assertEqual(repr(thing), repr(before))
            self.check(kept, web)
            self.assertEqual(kept.web(), web)

    def test_both_one(self):
        for web in (loose(4), whole(4)):
            kept = self.tied_as(web)
            for place in range(4):
                self.refused(NoPlace, kept.tie, place, place)
                self.refused(NoPlace, kept.loosen, place, place)
            self.check(kept, web)

    def test_truths_are_no_places_though_python_counts_them_as_numbers(self):
        kept = self.tied_as((2, ((0, 1),)))
        for a, b in ((0, True), (True, 0), (False, 1), (1, False), (False, True), (True, False), (True, True), (True, 1)):
            self.refused(NoPlace, kept.tie, a, b)
            self.refused(NoPlace, kept.loosen, a, b)
        kept = Kept(2)
        for a, b in ((0, True), (True, 0), (False, 1), (1, False), (False, True), (0, False)):
            self.refused(NoPlace, kept.tie, a, b)
            self.refused(NoPlace, kept.loosen, a, b)

    def test_tied_and_apart_already(self):
        for web in shapes(5):
            kept = self.tied_as(web)
            for a, b in all_pairs(5):
                for places in ((a, b), (b, a)):
                    if (a, b) in web[1]:
                        self.refused(Tied, kept.tie, *places)
                    else:
                        self.refused(Loose, kept.loosen, *places)
            self.check(kept, web)

    def test_nothing_is_changed(self):
        kept = self.tied_as((4, ((0, 1), (1, 2), (2, 3))))
        told = [getattr(kept, name)() for name in ASKED]
        for deed, places in ((kept.tie, (0, 1)), (kept.tie, (4, 0)), (kept.tie, (0, 4)), (kept.tie, (3, 3)),
                             (kept.loosen, (0, 3)), (kept.loosen, (-1, 0)), (kept.loosen, (0, 0)), (kept.loosen, ([], ()))):
            with self.assertRaises(TieError):
                deed(*places)
            self.check(kept, told[0])
        self.assertEqual(kept.most(), told[1])
        self.assertEqual([kept.back() for _ in range(4)], ["tied", "tied", "tied", None])


class Rows(Held):
    def step(self, kept, model, drawn):
        """One deed by the next numbers, refused or not, on both; with more ties about the longer it goes on."""
        n = model.n
        places = list(range(n)) + [n, -1, None, True]
        a = places[next(drawn) % (len(places) if next(drawn) % 8 == 0 else max(n, 1))]
        b = places[next(drawn) % (len(places) if next(drawn) % 8 == 0 else max(n, 1))]
        way = next(drawn) % 10
        if way < 2:
            self.assertEqual(kept.back(), model.back())
            return
        deed = "tied" if way < 7 else "loosened"
        method = kept.tie if way < 7 else kept.loosen
        if type(a) is not int or type(b) is not int or not (0 <= a < n and 0 <= b < n) or a == b:
            self.refused(NoPlace, method, a, b)
            return
        pair = (min(a, b), max(a, b))
        if (deed == "tied") == (pair in model.ties()):
            self.refused(Tied if deed == "tied" else Loose, method, a, b)
            return
        change = method(a, b)
        self.assertIs(type(change), int)
        self.assertEqual(change, model.do(deed, model.ties() ^ {pair}))
        self.assertIn(change, (0, 1) if deed == "tied" else (0, -1))

    def test_rows_of_deeds(self):
        orders = list(permutations(ASKED))
        for n in range(10):
            for seed in range(3):
                drawn = numbers(10 * n + seed)
                kept, model = Kept(n), Model(n)
                self.check(kept, loose(n), orders[next(drawn) % len(orders)])
                for _ in range(40):
                    self.step(kept, model, drawn)
                    # In the first row it is not always asked between two deeds, in the others once or twice.
                    for _ in range(next(drawn) % 3 if seed == 0 else 1 + next(drawn) % 2):
                        self.check(kept, web_of(n, model.ties()), orders[next(drawn) % len(orders)])
                self.check(kept, web_of(n, model.ties()))
                while len(model.past) > 1:
                    self.assertEqual(kept.back(), model.back())
                    self.assertEqual(kept.web(), web_of(n, model.ties()))
                self.assertIsNone(kept.back())
                self.check(kept, loose(n))

    def test_as_if_made_anew(self):
        drawn = numbers(99)
        kept, model = Kept(7), Model(7)
        for _ in range(60):
            self.step(kept, model, drawn)
            anew = self.tied_as(web_of(7, model.ties()))
            self.assertEqual(kept.web(), anew.web())
            self.assertEqual(kept.most(), anew.most())
            self.assertEqual(kept.most(), most(kept.web())[0])

    def test_two_kepts_have_nothing_in_common(self):
        first, second = Kept(3), Kept(3)
        first.tie(0, 1)
        self.assertEqual(second.web(), (3, ()))
        self.assertIsNone(second.back())
        second.tie(1, 2)
        self.assertEqual(first.web(), (3, ((0, 1),)))
        self.assertEqual(first.back(), "tied")
        self.assertEqual(second.web(), (3, ((1, 2),)))


if __name__ == "__main__":
    unittest.main()
