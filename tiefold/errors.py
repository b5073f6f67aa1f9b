"""The refusals that the other modules raise, each made of a text."""


class TieError(ValueError):
    pass


class NoPlace(TieError):
    pass


class Tied(TieError):
    pass


class Loose(TieError):
    pass


class Round(TieError):
    pass
