"""What the document says holds of all calls together."""

import unittest

from tests.asking import (DEALT, DEALTPAIRS, DEALTTO, EXCHANGE, FEWEST, FOLDEDALL, FOLDS, OVER, PAIRS, PRIMES,
                          SOME_PAIRS, UNDER, ask_of)


class Holds(unittest.TestCase):
    def test_turned_of_one_by_the_other(self):
        for p in PRIMES:
            for q in PRIMES:
                if p == q:
                    continue
                (of_q,), _, (of_p,) = ask_of(p, q, (FOLDS, q), (EXCHANGE,), (FOLDS, p))
                with self.subTest(p=p, q=q):
                    self.assertEqual(of_q % 2 == of_p % 2, p % 4 == 1 or q % 4 == 1)

    def test_turned_by_an_even_number_is_left_by_a_square(self):
        for p in PRIMES:
            squares = {n * n % p for n in range(1, p)}
            told = ask_of(p, 5 if p == 3 else 3, *[(FOLDS, a) for a in range(1, p)])
            for a, (many,) in enumerate(told, start=1):
                with self.subTest(p=p, a=a):
                    self.assertEqual(many % 2 == 0, a in squares)

    def test_points_are_even_where_turned_multiples_are(self):
        for p in PRIMES:
            for q in PRIMES:
                if p == q:
                    continue
                (by_p,), (below,), (above,), _, (by_q,) = ask_of(
                    p, q, (FOLDS, q), (UNDER,), (OVER,), (EXCHANGE,), (FOLDS, p))
                with self.subTest(p=p, q=q):
                    self.assertEqual(below % 2, by_p % 2)
                    self.assertEqual(above % 2, by_q % 2)
                    self.assertEqual(below + above, (p // 2) * (q // 2))

    def test_pairs_and_exchanges_are_even_where_turned_multiples_are(self):
        for p in PRIMES:
            asked = range(1, p) if p < 60 else (1, 2, 3, 5, 7, 11, p // 2, p - 2, p - 1)
            for a in asked:
                (turned,), (pairs,), (fewest,) = ask_of(
                    p, 5 if p == 3 else 3, (FOLDS, a), (PAIRS, a), (FEWEST, a))
                with self.subTest(p=p, a=a):
                    self.assertEqual(pairs % 2, turned % 2)
                    self.assertEqual(fewest % 2, turned % 2)

    def test_all_counts_of_q_by_p_are_even_together(self):
        for p, q in SOME_PAIRS:
            told = ask_of(p, q, (FOLDS, q), (UNDER,), (PAIRS, q), (FEWEST, q))
            with self.subTest(p=p, q=q):
                self.assertEqual(len({many % 2 for many, in told}), 1)

    def test_cards_tell_what_holds_between_two_primes(self):
        for p, q in SOME_PAIRS:
            (of_q,), (crossed,), _, (of_p,) = ask_of(p, q, (FOLDS, q), (DEALTPAIRS,), (EXCHANGE,), (FOLDS, p))
            with self.subTest(p=p, q=q):
                self.assertEqual(crossed % 2, (of_q + of_p) % 2)

    def test_cards_taken_are_taken_back_the_other_way(self):
        for p, q in ((3, 5), (5, 3), (7, 11), (13, 5), (17, 19)):
            asked = range(p * q)
            cards = [card for card, in ask_of(p, q, *[(DEALT, i) for i in asked])]
            with self.subTest(p=p, q=q):
                self.assertEqual(sorted(cards), list(asked))
                # With rows for columns the cards that were taken come back to where they lay.
                self.assertEqual(ask_of(q, p, *[(DEALT, card) for card in cards]), [[i] for i in asked])
                self.assertEqual(ask_of(p, q, *[(DEALTTO, card) for card in cards]), [[i] for i in asked])

    def test_folded_all_are_1_to_the_half_each_once(self):
        for p, q in SOME_PAIRS:
            for how_many, *they in ask_of(p, q, *[(FOLDEDALL, a) for a in range(1, p)]):
                with self.subTest(p=p):
                    self.assertEqual(how_many, p // 2)
                    self.assertEqual(sorted(they), list(range(1, p // 2 + 1)))


if __name__ == "__main__":
    unittest.main()
