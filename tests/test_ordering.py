"""Promise 4: place, where, pairs, long, round, fewest."""

import unittest

from tests.asking import (FEWEST, GREAT, LONG, PAIRS, PLACE, PRIMES, ROUND, SOME_PAIRS, TOLD, WHERE, ask_of,
                          remainders, the_other_way_round)

SMALL = ((3, 5), (5, 3), (7, 11), (11, 7), (13, 5), (17, 3), (31, 7))


def some_numbers(p, q):
    """Numbers a that don't leave 0 by p: the edges, ordinary ones and great ones."""
    return [1, 2, p - 1, p + 1, q, p // 2, p // 2 + 1, 2 * p - 1, GREAT // p * p - 1, GREAT // p * p - p + 2]


def leaving_0(p, q):
    return [0, p, 2 * p, p * p, p * q, GREAT // p * p]


def rounds_by_hand(p, a):
    """All rounds, each from its least number on."""
    left = list(range(1, p))
    rounds = []
    while left:
        members = []
        number = left[0]
        while number in left:
            left.remove(number)
            members.append(number)
            number = a * number % p
        rounds.append(members)
    return rounds


def fewest_by_trying(numbers):
    """The least exchanges of two that sort these: all that one exchange reaches, then two, and so on."""
    reached = {tuple(sorted(numbers))}
    steps = 0
    while tuple(numbers) not in reached:
        steps += 1
        for known in list(reached):
            for at in range(len(known)):
                for to in range(at):
                    other = list(known)
                    other[at], other[to] = other[to], other[at]
                    reached.add(tuple(other))
    return steps


class Place(unittest.TestCase):
    def test_every_multiple(self):
        for p, q in SMALL:
            for a in range(1, p):
                with self.subTest(p=p, a=a):
                    self.assertEqual(ask_of(p, q, *[(PLACE, a, k) for k in range(1, p)]),
                                     [[left] for left in remainders(p, a)])

    def test_several_pairs(self):
        for p, q in SOME_PAIRS:
            for a in some_numbers(p, q):
                with self.subTest(p=p, q=q, a=a):
                    self.assertEqual(ask_of(p, q, *[(PLACE, a, k) for k in range(1, p)]),
                                     [[left] for left in remainders(p, a)])

    def test_written_out(self):
        self.assertEqual(ask_of(7, 11, *[(PLACE, 3, k) for k in range(9)]),
                         [[-22], [3], [6], [2], [5], [1], [4], [-22], [-22]])
        self.assertEqual(ask_of(3, 5, (PLACE, 2, 1), (PLACE, 2, 2)), [[2], [1]])
        self.assertEqual(ask_of(7, 11, (PLACE, GREAT, 2), (PLACE, 11, 6), (PLACE, 8, 6), (PLACE, 6, 6)),
                         [[6], [3], [6], [1]])

    def test_k_at_the_ends_of_its_range_and_beyond(self):
        for p, q in SOME_PAIRS:
            for a in some_numbers(p, q):
                with self.subTest(p=p, a=a):
                    self.assertEqual(
                        ask_of(p, q, *[(PLACE, a, k) for k in (0, 1, p - 1, p, p + 1, 2 * p - 1, GREAT)]),
                        [[-22], [a % p], [p - a % p], [-22], [-22], [-22], [-22]])

    def test_a_that_leaves_0(self):
        for p, q in SOME_PAIRS:
            for a in leaving_0(p, q):
                with self.subTest(p=p, a=a):
                    self.assertEqual(ask_of(p, q, *[(PLACE, a, k) for k in (1, p // 2, p - 1)]), [[-22]] * 3)

    def test_a_and_k_both_wrong(self):
        for p, q in SOME_PAIRS:
            asked = [(PLACE, a, k) for a in leaving_0(p, q) for k in (0, p, p + 1, GREAT)]
            with self.subTest(p=p):
                self.assertEqual(ask_of(p, q, *asked), [[-22]] * len(asked))


class Where(unittest.TestCase):
    def test_place_leads_back_to_every_b(self):
        for p, q in SMALL + ((97, 101), (199, 197)):
            for a in sorted({number % p for number in some_numbers(p, q)}):
                told = [where for where, in ask_of(p, q, *[(WHERE, a, b) for b in range(1, p)])]
                with self.subTest(p=p, a=a):
                    self.assertEqual(sorted(told), list(range(1, p)))
                    self.assertEqual(ask_of(p, q, *[(PLACE, a, k) for k in told]), [[b] for b in range(1, p)])

    def test_every_a_and_b(self):
        for p, q in SMALL:
            for a in range(1, p):
                standing = remainders(p, a)
                with self.subTest(p=p, a=a):
                    self.assertEqual(ask_of(p, q, *[(WHERE, a, b) for b in range(1, p)]),
                                     [[standing.index(b) + 1] for b in range(1, p)])

    def test_a_and_b_stand_for_what_they_leave(self):
        for p, q in SOME_PAIRS:
            for a in some_numbers(p, q):
                standing = remainders(p, a)
                for b in some_numbers(p, q):
                    with self.subTest(p=p, a=a, b=b):
                        self.assertEqual(ask_of(p, q, (WHERE, a, b)), [[standing.index(b % p) + 1]])

    def test_a_of_1_and_of_p_less_1(self):
        for p, q in SOME_PAIRS:
            with self.subTest(p=p):
                self.assertEqual(ask_of(p, q, *[(WHERE, 1, b) for b in range(1, p)]), [[b] for b in range(1, p)])
                self.assertEqual(ask_of(p, q, *[(WHERE, p - 1, b) for b in range(1, p)]),
                                 [[p - b] for b in range(1, p)])

    def test_written_out(self):
        self.assertEqual(ask_of(7, 11, *[(WHERE, 3, b) for b in range(9)]),
                         [[-22], [5], [3], [1], [6], [4], [2], [-22], [5]])
        self.assertEqual(ask_of(3, 5, (WHERE, 2, 1), (WHERE, 2, 2), (WHERE, 1, 2)), [[2], [1], [2]])

    def test_a_or_b_that_leaves_0(self):
        for p, q in SOME_PAIRS:
            for nothing in leaving_0(p, q):
                with self.subTest(p=p, nothing=nothing):
                    self.assertEqual(
                        ask_of(p, q, (WHERE, nothing, 1), (WHERE, nothing, p - 1), (WHERE, 1, nothing),
                               (WHERE, p - 1, nothing), (WHERE, nothing, nothing), (WHERE, nothing, 0)),
                        [[-22]] * 6)


class Pairs(unittest.TestCase):
    def test_every_a(self):
        for p, q in SMALL + ((61, 3),):
            with self.subTest(p=p):
                self.assertEqual(ask_of(p, q, *[(PAIRS, a) for a in range(1, p)]),
                                 [[the_other_way_round(remainders(p, a))] for a in range(1, p)])

    def test_several_pairs(self):
        for p, q in SOME_PAIRS:
            asked = some_numbers(p, q)
            with self.subTest(p=p, q=q):
                self.assertEqual(ask_of(p, q, *[(PAIRS, a) for a in asked]),
                                 [[the_other_way_round(remainders(p, a))] for a in asked])

    def test_none_for_1_and_all_for_p_less_1(self):
        for p, q in SOME_PAIRS:
            with self.subTest(p=p):
                self.assertEqual(ask_of(p, q, (PAIRS, 1), (PAIRS, p + 1), (PAIRS, p - 1)),
                                 [[0], [0], [(p - 1) * (p - 2) // 2]])

    def test_written_out(self):
        # 3, 6, 2, 5, 1, 4; and 2, 4, 1, 3.
        self.assertEqual(ask_of(7, 11, (PAIRS, 3), (PAIRS, GREAT)), [[9], [9]])
        self.assertEqual(ask_of(5, 3, (PAIRS, 2)), [[3]])
        self.assertEqual(ask_of(3, 5, (PAIRS, 2)), [[1]])

    def test_a_that_leaves_0(self):
        for p, q in SOME_PAIRS:
            with self.subTest(p=p):
                self.assertEqual(ask_of(p, q, *[(PAIRS, a) for a in leaving_0(p, q)]), [[-22]] * 6)


class Rounds(unittest.TestCase):
    def check_all(self, p, q, a):
        """long and every round against the rounds as they are gone through by hand."""
        by_hand = rounds_by_hand(p, a)
        (length, many), = ask_of(p, q, (LONG, a))
        self.assertEqual(many, len(by_hand))
        self.assertEqual([length] * many, [len(members) for members in by_hand])
        told = dict(zip(range(1, p), ask_of(p, q, *[(ROUND, a, k) for k in range(1, p)])))
        for members in by_hand:
            for at, k in enumerate(members):
                self.assertEqual(told[k], [length] + members[at:] + members[:at])

    def test_every_a(self):
        for p, q in SMALL:
            for a in range(1, p):
                with self.subTest(p=p, a=a):
                    self.check_all(p, q, a)

    def test_several_pairs(self):
        for p, q in SOME_PAIRS:
            for a in some_numbers(p, q):
                with self.subTest(p=p, q=q, a=a):
                    self.check_all(p, q, a)

    def test_rounds_told_are_as_long_and_as_many_as_told(self):
        for p, q in SMALL + ((199, 197), (197, 199)):
            for a in (2, 3 if p != 3 else 4, p - 1):
                (length, many), = ask_of(p, q, (LONG, a))
                told = ask_of(p, q, *[(ROUND, a, k) for k in range(1, p)])
                with self.subTest(p=p, a=a):
                    self.assertEqual({count for count, *_ in told}, {length})
                    self.assertTrue(all(count == len(members) == len(set(members)) for count, *members in told))
                    self.assertEqual([members[0] for _, *members in told], list(range(1, p)))
                    self.assertEqual(len({frozenset(members) for _, *members in told}), many)
                    self.assertEqual(length * many, p - 1)

    def test_a_of_1_and_of_p_less_1(self):
        for p, q in SOME_PAIRS:
            with self.subTest(p=p):
                self.assertEqual(
                    ask_of(p, q, (LONG, 1), (ROUND, 1, 1), (ROUND, 1, p - 1), (LONG, p - 1), (ROUND, p - 1, 1),
                           (ROUND, p - 1, p - 1)),
                    [[1, p - 1], [1, 1], [1, p - 1], [2, (p - 1) // 2], [2, 1, p - 1], [2, p - 1, 1]])

    def test_k_stands_for_what_it_leaves(self):
        for p, q in SOME_PAIRS:
            for left in (1, 2, p // 2, p - 1):
                same, *others = ask_of(p, q, *[(ROUND, 2, k) for k in (
                    left, p + left, 5 * p + left, GREAT // p * p - p + left)])
                with self.subTest(p=p, left=left):
                    self.assertEqual(others, [same] * 3)
                    self.assertEqual(same[1], left)

    def test_written_out(self):
        self.assertEqual(
            ask_of(7, 11, (LONG, 2), (ROUND, 2, 1), (ROUND, 2, 3), (ROUND, 2, 6), (ROUND, 9, 13), (LONG, 3),
                   (ROUND, 3, 4), (ROUND, GREAT, GREAT)),
            [[3, 2], [3, 1, 2, 4], [3, 3, 6, 5], [3, 6, 5, 3], [3, 6, 5, 3], [6, 1],
             [6, 4, 5, 1, 3, 2, 6], [6, 3, 2, 6, 4, 5, 1]])
        self.assertEqual(ask_of(3, 5, (LONG, 2), (ROUND, 2, 2), (LONG, 1)), [[2, 1], [2, 2, 1], [1, 2]])
        self.assertEqual(ask_of(199, 197, (LONG, 2), (LONG, 3)), [[99, 2], [198, 1]])
        self.assertEqual(ask_of(197, 199, (LONG, 2), (LONG, 14)), [[196, 1], [4, 49]])

    def test_a_that_leaves_0(self):
        for p, q in SOME_PAIRS:
            for a in leaving_0(p, q):
                with self.subTest(p=p, a=a):
                    self.assertEqual(ask_of(p, q, (LONG, a), (ROUND, a, 1), (ROUND, a, p - 1)), [[-22]] * 3)

    def test_k_that_leaves_0(self):
        for p, q in SOME_PAIRS:
            for k in leaving_0(p, q):
                with self.subTest(p=p, k=k):
                    self.assertEqual(ask_of(p, q, (ROUND, 1, k), (ROUND, 2, k), (ROUND, p - 1, k)), [[-22]] * 3)

    def test_a_and_k_both_wrong(self):
        for p, q in SOME_PAIRS:
            asked = [(ROUND, a, k) for a in leaving_0(p, q) for k in leaving_0(p, q)]
            with self.subTest(p=p):
                self.assertEqual(ask_of(p, q, *asked), [[-22]] * len(asked))


class Fewest(unittest.TestCase):
    def test_by_trying_all_exchanges(self):
        for p, q in ((3, 5), (5, 3), (7, 11)):
            for a in range(1, p):
                with self.subTest(p=p, a=a):
                    self.assertEqual(ask_of(p, q, (FEWEST, a)), [[fewest_by_trying(remainders(p, a))]])

    def test_against_the_rounds(self):
        for p in PRIMES:
            asked = range(1, p) if p < 40 or p > 190 else (1, 2, 3 if p != 3 else 4, p - 1)
            with self.subTest(p=p):
                self.assertEqual(
                    ask_of(p, 5 if p == 3 else 3, *[(FEWEST, a) for a in asked]),
                    [[sum(len(members) - 1 for members in rounds_by_hand(p, a))] for a in asked])

    def test_several_pairs(self):
        for p, q in SOME_PAIRS:
            asked = some_numbers(p, q)
            with self.subTest(p=p, q=q):
                self.assertEqual(
                    ask_of(p, q, *[(FEWEST, a) for a in asked]),
                    [[sum(len(members) - 1 for members in rounds_by_hand(p, a))] for a in asked])

    def test_a_of_1_and_of_p_less_1(self):
        for p, q in SOME_PAIRS:
            with self.subTest(p=p):
                self.assertEqual(ask_of(p, q, (FEWEST, 1), (FEWEST, p + 1), (FEWEST, p - 1)),
                                 [[0], [0], [(p - 1) // 2]])

    def test_written_out(self):
        self.assertEqual(ask_of(7, 11, (FEWEST, 2), (FEWEST, 3), (FEWEST, GREAT)), [[4], [5], [5]])
        self.assertEqual(ask_of(3, 5, (FEWEST, 2)), [[1]])
        self.assertEqual(ask_of(199, 197, (FEWEST, 2), (FEWEST, 3)), [[196], [197]])

    def test_a_that_leaves_0(self):
        for p, q in SOME_PAIRS:
            with self.subTest(p=p):
                self.assertEqual(ask_of(p, q, *[(FEWEST, a) for a in leaving_0(p, q)]), [[-22]] * 6)


class Unchanged(unittest.TestCase):
    def test_no_answer_and_no_refusal_changes_the_primes(self):
        asked = [(PLACE, 3, 2), (PLACE, 7, 1), (PLACE, 1, 7), (WHERE, 3, 2), (WHERE, 7, 1), (WHERE, 1, 7),
                 (PAIRS, 3), (PAIRS, 7), (LONG, 3), (LONG, 7), (FEWEST, 3), (FEWEST, 7), (ROUND, 3, 2),
                 (ROUND, 7, 1), (ROUND, 1, 7)]
        for call in asked:
            with self.subTest(call=call):
                self.assertEqual(ask_of(7, 11, call, (TOLD,))[1], [7, 11])

    def test_q_is_not_asked(self):
        calls = [(PLACE, 3, 2), (PLACE, 11, 4), (WHERE, 3, 11), (WHERE, 11, 3), (PAIRS, 11), (LONG, 11),
                 (FEWEST, 11), (ROUND, 11, 22)]
        self.assertEqual(ask_of(7, 11, *calls), ask_of(7, 5, *calls))


if __name__ == "__main__":
    unittest.main()
