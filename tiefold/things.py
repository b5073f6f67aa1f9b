"""What several modules ask of things of any kind."""


# Python counts True and False among its ints; here they are no whole numbers.
def is_whole(thing):
    return isinstance(thing, int) and not isinstance(thing, bool)


def is_tuple_of(thing, length):
    return isinstance(thing, tuple) and len(thing) == length


# Ask it only of a row whose things can be compared: Python refuses to compare, say, a text with a number.
def rises(row):
    return all([row[i] < row[i + 1] for i in range(len(row) - 1)])


# A rising row gives rising pairs, the lesser first: just the order in which a web has its ties.
def pairs_of(row):
    pairs = []
    for i in range(len(row)):
        for j in range(i + 1, len(row)):
            pairs.append((row[i], row[j]))
    return pairs
