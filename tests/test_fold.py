"""Promise 2: fold, folds, foldedall."""

import unittest

from tests.asking import EXCHANGE, FOLD, FOLDEDALL, FOLDS, GREAT, SOME_PAIRS, ask_of


def folded_by_hand(p, a, k):
    left = a * k % p
    return [p - left, 1] if 2 * left > p else [left, 0]


class Ordinary(unittest.TestCase):
    def test_every_multiple(self):
        for p, q in ((3, 5), (5, 3), (7, 11), (13, 3), (31, 7)):
            for a in range(1, p):
                due = [folded_by_hand(p, a, k) for k in range(1, p // 2 + 1)]
                with self.subTest(p=p, a=a):
                    self.assertEqual(ask_of(p, q, *[(FOLD, a, k) for k in range(1, p // 2 + 1)]), due)
                    self.assertEqual(
                        ask_of(p, q, (FOLDS, a), (FOLDEDALL, a)),
                        [[sum(turned for _, turned in due)], [p // 2] + [number for number, _ in due]])

    def test_several_pairs(self):
        for p, q in SOME_PAIRS:
            for a in (1, 2, q, p - 1, p + 1, p // 2, p // 2 + 1, 4000000000 // p * p + 2):
                due = [folded_by_hand(p, a, k) for k in range(1, p // 2 + 1)]
                with self.subTest(p=p, q=q, a=a):
                    self.assertEqual(ask_of(p, q, *[(FOLD, a, k) for k in range(1, p // 2 + 1)]), due)
                    self.assertEqual(
                        ask_of(p, q, (FOLDS, a), (FOLDEDALL, a)),
                        [[sum(turned for _, turned in due)], [p // 2] + [number for number, _ in due]])

    def test_written_out(self):
        self.assertEqual(
            ask_of(7, 11, (FOLD, 3, 1), (FOLD, 3, 2), (FOLD, 3, 3), (FOLDS, 3), (FOLDEDALL, 3)),
            [[3, 0], [1, 1], [2, 0], [1], [3, 3, 1, 2]])
        self.assertEqual(ask_of(3, 5, (FOLD, 2, 1), (FOLDS, 2), (FOLDEDALL, 2)), [[1, 1], [1], [1, 1]])
        self.assertEqual(ask_of(5, 3, (FOLD, 2, 1), (FOLD, 2, 2), (FOLDS, 2), (FOLDEDALL, 2)),
                         [[2, 0], [1, 1], [1], [2, 2, 1]])


class Edges(unittest.TestCase):
    def test_a_of_1_and_of_p_less_1(self):
        for p, q in SOME_PAIRS:
            last = p // 2
            with self.subTest(p=p):
                self.assertEqual(ask_of(p, q, (FOLDS, 1), (FOLDEDALL, 1), (FOLD, 1, 1), (FOLD, 1, last)),
                                 [[0], [last] + list(range(1, last + 1)), [1, 0], [last, 0]])
                self.assertEqual(ask_of(p, q, (FOLDS, p - 1), (FOLDEDALL, p - 1), (FOLD, p - 1, 1),
                                        (FOLD, p - 1, last)),
                                 [[last], [last] + list(range(1, last + 1)), [1, 1], [last, 1]])

    def test_what_leaves_the_half_is_not_turned_and_one_more_is(self):
        for p, q in SOME_PAIRS:
            with self.subTest(p=p):
                self.assertEqual(ask_of(p, q, (FOLD, p // 2, 1), (FOLD, p // 2 + 1, 1)),
                                 [[p // 2, 0], [p // 2, 1]])

    def test_a_stands_for_what_it_leaves(self):
        for p, q in SOME_PAIRS:
            for left in (1, 2, p // 2, p - 1):
                great = GREAT // p * p - p + left
                same = [(FOLD, left, 1), (FOLD, left, p // 2), (FOLDS, left), (FOLDEDALL, left)]
                more = [(call[0], great) + call[2:] for call in same]
                with self.subTest(p=p, left=left):
                    self.assertEqual(ask_of(p, q, *more), ask_of(p, q, *same))

    def test_the_greatest_a(self):
        # 4294967295 is 3 times 5 times 17 times 257 times 65537; by 7 it leaves 3.
        self.assertEqual(ask_of(7, 11, (FOLD, GREAT, 2), (FOLDS, GREAT), (FOLDEDALL, GREAT)),
                         [[1, 1], [1], [3, 3, 1, 2]])
        self.assertEqual(ask_of(17, 5, (FOLD, GREAT, 2), (FOLDS, GREAT), (FOLDEDALL, GREAT)), [[-22]] * 3)


class Refusals(unittest.TestCase):
    def test_a_that_leaves_0(self):
        for p, q in SOME_PAIRS:
            for a in (0, p, 2 * p, p * p, p * q, GREAT // p * p):
                with self.subTest(p=p, a=a):
                    self.assertEqual(
                        ask_of(p, q, (FOLD, a, 1), (FOLD, a, p // 2), (FOLDS, a), (FOLDEDALL, a)), [[-22]] * 4)

    def test_q_is_not_asked(self):
        self.assertEqual(ask_of(5, 3, (FOLD, 3, 1), (FOLDS, 3), (FOLDEDALL, 3), (FOLD, 6, 2)),
                         [[2, 1], [1], [2, 2, 1], [2, 0]])

    def test_k_beyond_its_range(self):
        for p, q in SOME_PAIRS:
            for k in (0, p // 2 + 1, p - 1, p, p + 1, GREAT):
                for a in (1, p - 1, GREAT // p * p - 1):
                    with self.subTest(p=p, k=k, a=a):
                        self.assertEqual(ask_of(p, q, (FOLD, a, k)), [[-22]])

    def test_k_at_the_ends_of_its_range(self):
        for p, q in SOME_PAIRS:
            with self.subTest(p=p):
                self.assertEqual(ask_of(p, q, (FOLD, 2, 1), (FOLD, 2, p // 2)),
                                 [folded_by_hand(p, 2, 1), [1, 1]])

    def test_a_and_k_both_wrong(self):
        self.assertEqual(ask_of(7, 11, (FOLD, 0, 0), (FOLD, 7, 4), (FOLD, 14, GREAT)), [[-22]] * 3)

    def test_nothing_is_changed(self):
        self.assertEqual(
            ask_of(7, 11, (FOLD, 7, 1), (FOLD, 1, 4), (FOLDS, 0), (FOLDEDALL, 0), (FOLDEDALL, 3), (EXCHANGE,)),
            [[-22], [-22], [-22], [-22], [3, 3, 1, 2], [11, 7]])


if __name__ == "__main__":
    unittest.main()
