"""What the document says holds of turned multiples and of points."""

import unittest

from tests.asking import EXCHANGE, FOLDEDALL, FOLDS, OVER, PRIMES, SOME_PAIRS, UNDER, ask_of


class Holds(unittest.TestCase):
    def test_turned_of_one_by_the_other(self):
        for p in PRIMES:
            for q in PRIMES:
                if p == q:
                    continue
                (of_q,), _, (of_p,) = ask_of(p, q, (FOLDS, q), (EXCHANGE,), (FOLDS, p))
                with self.subTest(p=p, q=q):
                    self.assertEqual(of_q % 2 == of_p % 2, p % 4 == 1 or q % 4 == 1)

    def test_turned_by_an_even_number_is_left_by_a_square(self):
        for p in PRIMES:
            squares = {n * n % p for n in range(1, p)}
            told = ask_of(p, 5 if p == 3 else 3, *[(FOLDS, a) for a in range(1, p)])
            for a, (many,) in enumerate(told, start=1):
                with self.subTest(p=p, a=a):
                    self.assertEqual(many % 2 == 0, a in squares)

    def test_points_are_even_where_turned_multiples_are(self):
        for p in PRIMES:
            for q in PRIMES:
                if p == q:
                    continue
                (by_p,), (below,), (above,), _, (by_q,) = ask_of(
                    p, q, (FOLDS, q), (UNDER,), (OVER,), (EXCHANGE,), (FOLDS, p))
                with self.subTest(p=p, q=q):
                    self.assertEqual(below % 2, by_p % 2)
                    self.assertEqual(above % 2, by_q % 2)
                    self.assertEqual(below + above, (p // 2) * (q // 2))

    def test_folded_all_are_1_to_the_half_each_once(self):
        for p, q in SOME_PAIRS:
            for how_many, *they in ask_of(p, q, *[(FOLDEDALL, a) for a in range(1, p)]):
                with self.subTest(p=p):
                    self.assertEqual(how_many, p // 2)
                    self.assertEqual(sorted(they), list(range(1, p // 2 + 1)))


if __name__ == "__main__":
    unittest.main()
