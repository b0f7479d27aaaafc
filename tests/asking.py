"""What the tests share: asking calls, and counts made straight from the document's words."""

from betweenprimes.counting import answers

(BEGIN, EXCHANGE, NEXT, FOLD, FOLDS, FOLDEDALL, COLUMN, ROW, UNDER, OVER, INSIDE,
 PLACE, WHERE, PAIRS, LONG, FEWEST, ROUND, DEALT, DEALTTO, DEALTPAIRS, TOLD) = range(21)

GREAT = 4294967295

PRIMES = [n for n in range(3, 200) if all(n % d for d in range(2, n))]

SOME_PAIRS = [(3, 5), (5, 3), (3, 7), (7, 11), (11, 7), (13, 5), (17, 13), (23, 31),
              (61, 3), (97, 101), (3, 199), (199, 3), (197, 199), (199, 197)]


def flat(calls):
    """The list that hands these calls in."""
    handed = [number for call in calls for number in call]
    assert 1 <= len(calls) <= 60 and len(handed) <= 500
    return handed


def split(told):
    """The answers in a list that was given back, each a list of its own."""
    apart = []
    at = 0
    while at < len(told):
        apart.append(told[at + 1:at + 1 + told[at]])
        assert told[at] >= 1 and len(apart[-1]) == told[at]
        at += 1 + told[at]
    return apart


def ask(*calls):
    """What each of these calls on one new object answers."""
    apart = split(answers(flat(calls)))
    assert len(apart) == len(calls)
    return apart


def ask_of(p, q, *calls):
    """What each of these calls answers behind a begin with p and q, however many they are."""
    apart = []
    for start in range(0, len(calls), 50):
        first, *others = ask((BEGIN, p, q), *calls[start:start + 50])
        assert first == [0]
        apart.extend(others)
    return apart


def points(p, q):
    """All points, each with 1 if it's under the line, 2 if it's over it."""
    return {(x, y): 1 if y * p < x * q else 2
            for x in range(1, p // 2 + 1) for y in range(1, q // 2 + 1)}


def remainders(p, a):
    """What the multiples of a leave by p, from the first to the one before the p-th."""
    return [a * k % p for k in range(1, p)]


def the_other_way_round(numbers):
    """How many pairs of these numbers have the greater one first."""
    return sum(former > latter for at, latter in enumerate(numbers) for former in numbers[:at])
