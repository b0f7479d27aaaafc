"""Promise 3: column, row, under, over, inside."""

import unittest

from tests.asking import COLUMN, EXCHANGE, GREAT, INSIDE, OVER, ROW, SOME_PAIRS, UNDER, ask_of, points


class Counts(unittest.TestCase):
    def test_columns(self):
        for p, q in SOME_PAIRS:
            known = points(p, q)
            due = [[sum(known[x, y] == 1 for y in range(1, q // 2 + 1))] for x in range(1, p // 2 + 1)]
            with self.subTest(p=p, q=q):
                self.assertEqual(ask_of(p, q, *[(COLUMN, x) for x in range(1, p // 2 + 1)]), due)

    def test_rows(self):
        for p, q in SOME_PAIRS:
            known = points(p, q)
            due = [[sum(known[x, y] == 2 for x in range(1, p // 2 + 1))] for y in range(1, q // 2 + 1)]
            with self.subTest(p=p, q=q):
                self.assertEqual(ask_of(p, q, *[(ROW, y) for y in range(1, q // 2 + 1)]), due)

    def test_under_and_over(self):
        for p, q in SOME_PAIRS:
            sides = list(points(p, q).values())
            with self.subTest(p=p, q=q):
                self.assertEqual(ask_of(p, q, (UNDER,), (OVER,)), [[sides.count(1)], [sides.count(2)]])

    def test_every_point(self):
        for p, q in ((3, 5), (5, 3), (7, 11), (11, 7), (13, 5), (17, 13), (61, 3), (3, 199)):
            known = points(p, q)
            with self.subTest(p=p, q=q):
                self.assertEqual(ask_of(p, q, *[(INSIDE,) + point for point in known]),
                                 [[side] for side in known.values()])

    def test_points_told_of_are_those_counted(self):
        for p, q in ((3, 5), (7, 11), (17, 13), (23, 31), (31, 23)):
            asked = [(x, y) for x in range(1, p // 2 + 1) for y in range(1, q // 2 + 1)]
            told = ask_of(p, q, *[(INSIDE,) + point for point in asked])
            below = [point for point, side in zip(asked, told) if side == [1]]
            above = [point for point, side in zip(asked, told) if side == [2]]
            with self.subTest(p=p, q=q):
                self.assertEqual(len(below) + len(above), len(asked))
                self.assertEqual(ask_of(p, q, *[(COLUMN, k) for k in range(1, p // 2 + 1)]),
                                 [[sum(x == k for x, _ in below)] for k in range(1, p // 2 + 1)])
                self.assertEqual(ask_of(p, q, *[(ROW, k) for k in range(1, q // 2 + 1)]),
                                 [[sum(y == k for _, y in above)] for k in range(1, q // 2 + 1)])
                self.assertEqual(ask_of(p, q, (UNDER,), (OVER,)), [[len(below)], [len(above)]])

    def test_written_out(self):
        self.assertEqual(
            ask_of(7, 11, (COLUMN, 1), (COLUMN, 2), (COLUMN, 3), (UNDER,), (ROW, 1), (ROW, 2), (ROW, 3), (ROW, 4),
                   (ROW, 5), (OVER,), (INSIDE, 1, 1), (INSIDE, 1, 2), (INSIDE, 3, 4), (INSIDE, 3, 5)),
            [[1], [3], [4], [8], [0], [1], [1], [2], [3], [7], [1], [2], [1], [2]])
        self.assertEqual(
            ask_of(3, 5, (COLUMN, 1), (ROW, 1), (ROW, 2), (UNDER,), (OVER,), (INSIDE, 1, 1), (INSIDE, 1, 2)),
            [[1], [0], [1], [1], [1], [1], [2]])
        self.assertEqual(
            ask_of(5, 3, (COLUMN, 1), (COLUMN, 2), (ROW, 1), (UNDER,), (OVER,), (INSIDE, 1, 1), (INSIDE, 2, 1)),
            [[0], [1], [1], [1], [1], [2], [1]])


class Ends(unittest.TestCase):
    def test_column_and_row_at_both_ends_and_beyond(self):
        for p, q in SOME_PAIRS:
            known = points(p, q)
            right, up = p // 2, q // 2
            with self.subTest(p=p, q=q):
                self.assertEqual(
                    ask_of(p, q, (COLUMN, 0), (COLUMN, 1), (COLUMN, right), (COLUMN, right + 1), (COLUMN, GREAT)),
                    [[-22], [sum(known[1, y] == 1 for y in range(1, up + 1))],
                     [sum(known[right, y] == 1 for y in range(1, up + 1))], [-22], [-22]])
                self.assertEqual(
                    ask_of(p, q, (ROW, 0), (ROW, 1), (ROW, up), (ROW, up + 1), (ROW, GREAT)),
                    [[-22], [sum(known[x, 1] == 2 for x in range(1, right + 1))],
                     [sum(known[x, up] == 2 for x in range(1, right + 1))], [-22], [-22]])

    def test_inside_at_all_ends_and_beyond(self):
        for p, q in SOME_PAIRS:
            known = points(p, q)
            asked = [(x, y) for x in (0, 1, p // 2, p // 2 + 1, p, GREAT) for y in (0, 1, q // 2, q // 2 + 1, q, GREAT)]
            with self.subTest(p=p, q=q):
                self.assertEqual(ask_of(p, q, *[(INSIDE,) + point for point in asked]),
                                 [[known.get(point, -22)] for point in asked])

    def test_k_is_not_taken_by_what_it_leaves(self):
        self.assertEqual(ask_of(7, 11, (COLUMN, 8), (ROW, 12), (INSIDE, 8, 1), (INSIDE, 1, 12)), [[-22]] * 4)

    def test_nothing_is_changed(self):
        self.assertEqual(
            ask_of(7, 11, (COLUMN, 4), (ROW, 6), (INSIDE, 4, 1), (INSIDE, 1, 6), (COLUMN, 3), (ROW, 5), (EXCHANGE,)),
            [[-22], [-22], [-22], [-22], [4], [3], [11, 7]])


if __name__ == "__main__":
    unittest.main()
