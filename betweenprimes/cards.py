"""Cards, dealt by rows and taken by columns."""

from betweenprimes.calls import DEALT, DEALTTO, REFUSED


def dealt(rows, columns, i):
    """Which card is the i-th that's taken, if there are so many."""
    if i >= rows * columns:
        return [REFUSED]
    return [i % rows * columns + i // rows]


def dealt_pairs(rows, columns):
    """How many pairs of cards are taken with the greater number first."""
    # These are the pairs whose greater card is in a later row and an earlier column:
    # one pair for every two rows and two columns.
    return [rows * (rows - 1) // 2 * (columns * (columns - 1) // 2)]


def card_answer(p, q, number, given):
    """The answer to dealt, dealtto or dealtpairs."""
    if number == DEALT:
        return dealt(p, q, given[0])
    # With rows and columns exchanged the cards are taken back.
    if number == DEALTTO:
        return dealt(q, p, given[0])
    return dealt_pairs(p, q)
