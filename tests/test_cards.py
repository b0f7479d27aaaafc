"""Promise 5: dealt, dealtto, dealtpairs."""

import unittest

from tests.asking import (DEALT, DEALTPAIRS, DEALTTO, EXCHANGE, GREAT, NEXT, SOME_PAIRS, TOLD, ask_of,
                          the_other_way_round)

SMALL = ((3, 5), (5, 3), (3, 7), (7, 11), (11, 7), (13, 5), (17, 13), (61, 3), (3, 199), (199, 3))


def taken(p, q):
    """The cards in the order in which they are taken: laid out in rows, walked by columns."""
    rows = [[row * q + column for column in range(q)] for row in range(p)]
    return [row[column] for column in range(q) for row in rows]


class Dealt(unittest.TestCase):
    def test_every_card(self):
        for p, q in SMALL:
            with self.subTest(p=p, q=q):
                self.assertEqual(ask_of(p, q, *[(DEALT, i) for i in range(p * q)]), [[card] for card in taken(p, q)])

    def test_several_pairs(self):
        for p, q in SOME_PAIRS:
            asked = [0, 1, p - 1, p, p + 1, q - 1, q, q + 1, p * q // 2, p * q - p - 1, p * q - p, p * q - 2]
            known = taken(p, q)
            with self.subTest(p=p, q=q):
                self.assertEqual(ask_of(p, q, *[(DEALT, i) for i in asked]), [[known[i]] for i in asked])

    def test_written_out(self):
        # 0 1 2 3 4 / 5 6 7 8 9 / 10 11 12 13 14
        self.assertEqual(ask_of(3, 5, *[(DEALT, i) for i in range(16)]),
                         [[0], [5], [10], [1], [6], [11], [2], [7], [12], [3], [8], [13], [4], [9], [14], [-22]])


class DealtTo(unittest.TestCase):
    def test_every_card(self):
        for p, q in SMALL:
            known = taken(p, q)
            with self.subTest(p=p, q=q):
                self.assertEqual(ask_of(p, q, *[(DEALTTO, i) for i in range(p * q)]),
                                 [[known.index(card)] for card in range(p * q)])

    def test_several_pairs(self):
        for p, q in SOME_PAIRS:
            asked = [0, 1, p - 1, p, p + 1, q - 1, q, q + 1, p * q // 2, p * q - q - 1, p * q - q, p * q - 2]
            known = taken(p, q)
            with self.subTest(p=p, q=q):
                self.assertEqual(ask_of(p, q, *[(DEALTTO, i) for i in asked]), [[known.index(i)] for i in asked])

    def test_written_out(self):
        self.assertEqual(ask_of(3, 5, *[(DEALTTO, i) for i in range(16)]),
                         [[0], [3], [6], [9], [12], [1], [4], [7], [10], [13], [2], [5], [8], [11], [14], [-22]])


class Both(unittest.TestCase):
    def test_the_one_takes_the_other_back(self):
        for p, q in SMALL:
            cards = [card for card, in ask_of(p, q, *[(DEALT, i) for i in range(p * q)])]
            places = [place for place, in ask_of(p, q, *[(DEALTTO, i) for i in range(p * q)])]
            with self.subTest(p=p, q=q):
                self.assertEqual(ask_of(p, q, *[(DEALTTO, card) for card in cards]), [[i] for i in range(p * q)])
                self.assertEqual(ask_of(p, q, *[(DEALT, place) for place in places]), [[i] for i in range(p * q)])

    def test_the_first_card_and_the_last(self):
        for p, q in SOME_PAIRS:
            last = p * q - 1
            with self.subTest(p=p, q=q):
                self.assertEqual(ask_of(p, q, (DEALT, 0), (DEALTTO, 0), (DEALT, last), (DEALTTO, last)),
                                 [[0], [0], [last], [last]])

    def test_no_such_card(self):
        for p, q in SOME_PAIRS:
            for i in (p * q, p * q + 1, 2 * p * q - 1, 2 * p * q, 40000, GREAT):
                with self.subTest(p=p, q=q, i=i):
                    self.assertEqual(ask_of(p, q, (DEALT, i), (DEALTTO, i), (TOLD,)), [[-22], [-22], [p, q]])

    def test_behind_exchange_and_next(self):
        self.assertEqual(
            ask_of(3, 5, (EXCHANGE,), (DEALT, 1), (DEALTTO, 1), (DEALT, 14), (DEALT, 15), (NEXT,), (DEALT, 1),
                   (DEALTTO, 1), (DEALT, 15), (DEALTTO, 34), (DEALTTO, 35)),
            [[5, 3], [3], [5], [14], [-22], [7], [7], [5], [3], [34], [-22]])


class DealtPairs(unittest.TestCase):
    def test_against_all_pairs_of_cards(self):
        for p, q in ((3, 5), (5, 3), (3, 7), (7, 3), (5, 7), (7, 11), (11, 7), (13, 5), (17, 13)):
            with self.subTest(p=p, q=q):
                self.assertEqual(ask_of(p, q, (DEALTPAIRS,)), [[the_other_way_round(taken(p, q))]])

    def test_against_the_cards_that_are_told(self):
        for p, q in ((3, 5), (5, 3), (7, 11), (13, 5)):
            cards = [card for card, in ask_of(p, q, *[(DEALT, i) for i in range(p * q)])]
            with self.subTest(p=p, q=q):
                self.assertEqual(ask_of(p, q, (DEALTPAIRS,)), [[the_other_way_round(cards)]])

    def test_the_same_with_p_and_q_exchanged(self):
        for p, q in SOME_PAIRS:
            there, _, back = ask_of(p, q, (DEALTPAIRS,), (EXCHANGE,), (DEALTPAIRS,))
            with self.subTest(p=p, q=q):
                self.assertEqual(there, back)

    def test_written_out(self):
        self.assertEqual(ask_of(3, 5, (DEALTPAIRS,), (TOLD,)), [[30], [3, 5]])
        self.assertEqual(ask_of(3, 7, (DEALTPAIRS,)), [[63]])
        self.assertEqual(ask_of(199, 197, (DEALTPAIRS,)), [[380347506]])
        self.assertEqual(ask_of(197, 193, (NEXT,), (DEALTPAIRS,)), [[199], [380347506]])


if __name__ == "__main__":
    unittest.main()
