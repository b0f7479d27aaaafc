"""Promise 1: begin, exchange, next, told."""

import unittest

from tests.asking import (BEGIN, COLUMN, EXCHANGE, FOLD, FOLDEDALL, FOLDS, GREAT, INSIDE, NEXT,
                          OVER, PRIMES, ROW, TOLD, UNDER, ask, ask_of)


class Begin(unittest.TestCase):
    def test_three_and_five(self):
        self.assertEqual(ask((BEGIN, 3, 5)), [[0]])
        self.assertEqual(ask((BEGIN, 5, 3)), [[0]])

    def test_every_number_to_250_in_both_places(self):
        for n in range(251):
            for other in (3, 5, 199):
                due = [0] if n in PRIMES and n != other else [-22]
                with self.subTest(n=n, other=other):
                    self.assertEqual(ask((BEGIN, n, other)), [due])
                    self.assertEqual(ask((BEGIN, other, n)), [due])

    def test_no_odd_primes_below_200(self):
        # 211 and 4294967291 are primes, but not below 200.
        for n in (0, 1, 2, 4, 9, 15, 25, 49, 121, 169, 187, 198, 200, 201, 211, 4294967291, GREAT):
            with self.subTest(n=n):
                self.assertEqual(ask((BEGIN, n, 7)), [[-22]])
                self.assertEqual(ask((BEGIN, 7, n)), [[-22]])
                self.assertEqual(ask((BEGIN, n, n)), [[-22]])

    def test_the_same_prime_twice(self):
        for prime in PRIMES:
            with self.subTest(prime=prime):
                self.assertEqual(ask((BEGIN, prime, prime)), [[-22]])

    def test_a_refused_begin_changes_nothing(self):
        for refused in ((2, 13), (13, 2), (13, 13), (9, 13), (13, 9), (0, 13), (13, 211), (GREAT, 13)):
            with self.subTest(refused=refused):
                self.assertEqual(
                    ask((BEGIN, 7, 11), (BEGIN,) + refused, (FOLDEDALL, 1), (ROW, 5), (ROW, 6), (EXCHANGE,)),
                    [[0], [-22], [3, 1, 2, 3], [3], [-22], [11, 7]])

    def test_begin_comes_again(self):
        self.assertEqual(
            ask((BEGIN, 7, 11), (BEGIN, 13, 5), (FOLDEDALL, 1), (EXCHANGE,), (BEGIN, 3, 199), (EXCHANGE,),
                (BEGIN, 3, 199), (BEGIN, 3, 199), (EXCHANGE,)),
            [[0], [0], [6, 1, 2, 3, 4, 5, 6], [5, 13], [0], [199, 3], [0], [0], [199, 3]])


class BeforeBegin(unittest.TestCase):
    # Every call of the interface but begin, with arguments that are refused otherwise too.
    ARGUMENTS = {1: 0, 2: 0, 3: 2, 4: 1, 5: 1, 6: 1, 7: 1, 8: 0, 9: 0, 10: 2, 11: 2, 12: 2, 13: 1,
                 14: 1, 15: 1, 16: 2, 17: 1, 18: 1, 19: 0, 20: 0}

    def calls(self, argument):
        return [(number,) + (argument,) * many for number, many in self.ARGUMENTS.items()]

    def test_all_else_is_refused(self):
        for argument in (0, 1, GREAT):
            calls = self.calls(argument)
            self.assertEqual(ask(*calls), [[-11]] * 20)
            for call in calls:
                with self.subTest(call=call):
                    self.assertEqual(ask(call), [[-11]])

    def test_behind_a_refused_begin_too(self):
        for refused in ((3, 3), (2, 3), (3, 2), (0, 0), (3, 211), (GREAT, 3)):
            with self.subTest(refused=refused):
                self.assertEqual(ask((BEGIN,) + refused, *self.calls(1)), [[-22]] + [[-11]] * 20)

    def test_no_more_behind_a_begin_answered_0(self):
        self.assertEqual(
            ask((UNDER,), (BEGIN, 9, 5), (EXCHANGE,), (BEGIN, 3, 5), (UNDER,), (EXCHANGE,)),
            [[-11], [-22], [-11], [0], [1], [5, 3]])


class Exchange(unittest.TestCase):
    def test_it_answers_p_then_q(self):
        self.assertEqual(ask((BEGIN, 3, 5), (EXCHANGE,), (EXCHANGE,)), [[0], [5, 3], [3, 5]])

    def test_other_calls_lean_on_it(self):
        calls = [(FOLD, 3, 2), (FOLDS, 3), (FOLDEDALL, 3), (COLUMN, 3), (COLUMN, 5), (ROW, 5), (ROW, 3),
                 (UNDER,), (OVER,), (INSIDE, 3, 5), (INSIDE, 5, 3), (INSIDE, 1, 1), (FOLD, 11, 1), (FOLD, 7, 1)]
        by_7 = [[1, 1], [1], [3, 3, 1, 2], [4], [-22], [3], [1], [8], [7], [2], [-22], [1], [3, 1], [-22]]
        by_11 = [[5, 1], [2], [5, 3, 5, 2, 1, 4], [1], [3], [-22], [4], [7], [8], [-22], [1], [2], [-22], [4, 1]]
        self.assertEqual(ask((BEGIN, 7, 11), *calls), [[0]] + by_7)
        self.assertEqual(ask((BEGIN, 7, 11), (EXCHANGE,), *calls), [[0], [11, 7]] + by_11)
        self.assertEqual(ask((BEGIN, 7, 11), (EXCHANGE,), (EXCHANGE,), *calls), [[0], [11, 7], [7, 11]] + by_7)


class Next(unittest.TestCase):
    def test_all_primes_up_to_the_last(self):
        for p in PRIMES:
            start = 5 if p == 3 else 3
            due = [[prime] for prime in PRIMES if prime > start and prime != p]
            with self.subTest(p=p):
                self.assertEqual(ask((BEGIN, p, start), *[(NEXT,)] * (len(due) + 2), (EXCHANGE,)),
                                 [[0]] + due + [[-33], [-33], due[-1] + [p]])

    def test_p_is_passed_over(self):
        self.assertEqual(ask((BEGIN, 5, 3), (NEXT,)), [[0], [7]])
        self.assertEqual(ask((BEGIN, 197, 193), (NEXT,)), [[0], [199]])
        self.assertEqual(ask((BEGIN, 7, 11), (EXCHANGE,), (NEXT,)), [[0], [11, 7], [13]])

    def test_none_behind_199(self):
        self.assertEqual(ask((BEGIN, 3, 199), (NEXT,)), [[0], [-33]])
        self.assertEqual(ask((BEGIN, 3, 197), (NEXT,), (NEXT,)), [[0], [199], [-33]])

    def test_none_where_only_p_would_be_left(self):
        self.assertEqual(ask((BEGIN, 199, 197), (NEXT,)), [[0], [-33]])
        self.assertEqual(ask((BEGIN, 199, 193), (NEXT,), (NEXT,)), [[0], [197], [-33]])

    def test_the_refusal_changes_nothing(self):
        self.assertEqual(ask((BEGIN, 3, 199), (NEXT,), (ROW, 99), (ROW, 100), (EXCHANGE,), (NEXT,)),
                         [[0], [-33], [1], [-22], [199, 3], [5]])
        self.assertEqual(ask((BEGIN, 199, 197), (NEXT,), (ROW, 98), (ROW, 99), (EXCHANGE,)),
                         [[0], [-33], [98], [-22], [197, 199]])

    def test_q_is_the_next_one_and_p_stays(self):
        self.assertEqual(ask((BEGIN, 7, 11), (NEXT,), (UNDER,), (ROW, 6), (FOLDEDALL, 1), (EXCHANGE,)),
                         [[0], [13], [9], [3], [3, 1, 2, 3], [13, 7]])


class Told(unittest.TestCase):
    def test_behind_begin(self):
        for p in PRIMES:
            for q in PRIMES:
                if p != q:
                    with self.subTest(p=p, q=q):
                        self.assertEqual(ask_of(p, q, (TOLD,)), [[p, q]])

    def test_behind_another_begin(self):
        self.assertEqual(ask_of(3, 5, (TOLD,), (BEGIN, 199, 7), (TOLD,), (TOLD,)), [[3, 5], [0], [199, 7], [199, 7]])

    def test_behind_a_refused_begin(self):
        for refused in ((2, 13), (13, 2), (13, 13), (9, 13), (13, 9), (0, 13), (13, 211), (GREAT, 13), (11, 11)):
            with self.subTest(refused=refused):
                self.assertEqual(ask_of(7, 11, (BEGIN,) + refused, (TOLD,)), [[-22], [7, 11]])
                self.assertEqual(ask((TOLD,), (BEGIN,) + refused, (TOLD,)), [[-11], [-22], [-11]])

    def test_behind_exchange(self):
        self.assertEqual(ask_of(7, 11, (EXCHANGE,), (TOLD,), (EXCHANGE,), (TOLD,)),
                         [[11, 7], [11, 7], [7, 11], [7, 11]])

    def test_behind_next(self):
        self.assertEqual(ask_of(7, 11, (NEXT,), (TOLD,), (EXCHANGE,), (NEXT,), (TOLD,)),
                         [[13], [7, 13], [13, 7], [11], [13, 11]])
        self.assertEqual(ask_of(7, 5, (NEXT,), (TOLD,)), [[11], [7, 11]])

    def test_behind_a_refused_next(self):
        self.assertEqual(ask_of(3, 199, (NEXT,), (TOLD,)), [[-33], [3, 199]])
        self.assertEqual(ask_of(199, 197, (NEXT,), (TOLD,), (EXCHANGE,), (NEXT,), (TOLD,)),
                         [[-33], [199, 197], [197, 199], [-33], [197, 199]])


if __name__ == "__main__":
    unittest.main()
