"""Multiples of a number by a prime, turned and folded."""

from betweenprimes.calls import FOLD, FOLDS, REFUSED
from betweenprimes.multiples import multiple, multiples_to
from betweenprimes.primes import half


def is_turned(p, left):
    """Whether a multiple that leaves this by p is turned: 1 or 0."""
    return 1 if left > half(p) else 0


def folded(p, left):
    """A multiple that leaves this by p, folded."""
    return p - left if is_turned(p, left) == 1 else left


def fold(p, a, k):
    """The k-th multiple of a folded, then whether it's turned."""
    if k < 1 or k > half(p):
        return [REFUSED]
    left = multiple(p, a, k)
    return [folded(p, left), is_turned(p, left)]


def folds(p, a):
    """How many multiples of a are turned."""
    return [sum([is_turned(p, left) for left in multiples_to(p, a, half(p))])]


def folded_all(p, a):
    """How many multiples there are, then all of them folded."""
    return [half(p)] + [folded(p, left) for left in multiples_to(p, a, half(p))]


def fold_answer(p, number, given):
    """The answer to fold, folds or foldedall."""
    a = given[0] % p
    if a == 0:
        return [REFUSED]
    if number == FOLD:
        return fold(p, a, given[1])
    if number == FOLDS:
        return folds(p, a)
    return folded_all(p, a)
