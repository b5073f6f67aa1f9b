"""A web kept while ties come and go, with its most, a knot of so many places and a paper that none has more."""

from tiefold.errors import Loose, NoPlace, Tied
from tiefold.most import most
from tiefold.papers import paper_against
from tiefold.webs import is_place


class Kept:
    def __init__(self, n):
        self.n = n
        self.ties = {}
        self.deeds = []

    def tie(self, a, b):
        pair = self.pair_of(a, b)
        if pair in self.ties:
            raise Tied("these places are tied already")
        return self.change("tied", pair)

    def loosen(self, a, b):
        pair = self.pair_of(a, b)
        if pair not in self.ties:
            raise Loose("these places are apart already")
        return self.change("loosened", pair)

    # Things of any kind come here, so nothing is compared ahead of being known as a place.
    def pair_of(self, a, b):
        if not is_place(self.n, a) or not is_place(self.n, b):
            raise NoPlace("one of the two is no place")
        if a == b:
            raise NoPlace("both are one place")
        return (min(a, b), max(a, b))

    def change(self, deed, pair):
        before = self.most()
        self.exchange_tie(pair)
        self.deeds.append((deed, pair))
        return self.most() - before

    # A tie and a loosening undo one another, so the same step serves for both and for going back.
    def exchange_tie(self, pair):
        if pair in self.ties:
            self.ties.pop(pair)
        else:
            self.ties[pair] = True

    def back(self):
        if self.deeds == []:
            return None
        deed = self.deeds.pop()
        self.exchange_tie(deed[1])
        return deed[0]

    def web(self):
        return (self.n, tuple(sorted(self.ties)))

    def most(self):
        return most(self.web())[0]

    def knot(self):
        return most(self.web())[1]

    def paper(self):
        return paper_against(self.web(), self.most() + 1)
