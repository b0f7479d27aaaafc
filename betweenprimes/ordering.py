"""Multiples of a number by a prime, in order: where they stand, and their rounds."""

from betweenprimes.calls import FEWEST, LONG, PAIRS, PLACE, REFUSED, WHERE
from betweenprimes.multiples import multiple, multiples_to


def place(p, a, k):
    """What the k-th multiple of a leaves, if k is before p."""
    if k < 1 or k > p - 1:
        return [REFUSED]
    return [multiple(p, a, k)]


def where(p, a, b):
    """Which multiple of a leaves b, if that's not 0."""
    if b == 0:
        return [REFUSED]
    # p is a prime, so the multiples before the p-th leave each of 1 to p - 1 once.
    return [multiples_to(p, a, p - 1).index(b) + 1]


def pairs(p, a):
    """How many pairs of multiples of a stand the other way round."""
    in_order = multiples_to(p, a, p - 1)
    found = 0
    for latter in range(1, p - 1):
        for former in range(latter):
            if in_order[former] > in_order[latter]:
                found += 1
    return [found]


def round_of(p, a, start):
    """The numbers of one round, the given one first."""
    members = [start]
    following = multiple(p, a, start)
    while following != start:
        members.append(following)
        following = multiple(p, a, following)
    return members


def long_and_many(p, a):
    """How long each round is, then how many rounds there are."""
    # All rounds are as long as that of 1: they are its numbers, times what one starts from.
    length = len(round_of(p, a, 1))
    return [length, (p - 1) // length]


def fewest(p, a):
    """By how many exchanges of two, at least, the multiples come to stand in order."""
    # An exchange parts one round in two, at best, and there's always such a one till
    # all stand in order: then each of the p - 1 is a round by itself.
    return [p - 1 - long_and_many(p, a)[1]]


def whole_round(p, a, k):
    """How many numbers the round of k has, then they, if k isn't 0."""
    if k == 0:
        return [REFUSED]
    members = round_of(p, a, k)
    return [len(members)] + members


def order_answer(p, number, given):
    """The answer to place, where, pairs, long, fewest or round."""
    a = given[0] % p
    if a == 0:
        return [REFUSED]
    if number == PLACE:
        return place(p, a, given[1])
    if number == WHERE:
        return where(p, a, given[1] % p)
    if number == PAIRS:
        return pairs(p, a)
    if number == LONG:
        return long_and_many(p, a)
    if number == FEWEST:
        return fewest(p, a)
    return whole_round(p, a, given[1] % p)
