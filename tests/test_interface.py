"""What is handed in and given back, and that nothing is kept, changed, printed or read."""

import contextlib
import io
import unittest

from betweenprimes.counting import answers
from tests.asking import (BEGIN, COLUMN, DEALT, DEALTPAIRS, DEALTTO, EXCHANGE, FEWEST, FOLD, FOLDEDALL, FOLDS,
                          GREAT, INSIDE, LONG, NEXT, OVER, PAIRS, PLACE, ROUND, ROW, TOLD, UNDER, WHERE, flat, split)

# Every call, and every refusal, each with what is given back for it.
ASKED = [
    ((ROUND, 3, 2), [1, -11]), ((UNDER,), [1, -11]), ((BEGIN, 7, 11), [1, 0]), ((FOLD, 3, 2), [2, 1, 1]),
    ((PLACE, 3, 2), [1, 6]), ((FOLDS, 11), [1, 2]), ((WHERE, 3, 2), [1, 3]),
    ((FOLDEDALL, GREAT), [4, 3, 3, 1, 2]), ((PAIRS, GREAT), [1, 9]), ((COLUMN, 3), [1, 4]), ((LONG, 2), [2, 3, 2]),
    ((ROW, 5), [1, 3]), ((FEWEST, 2), [1, 4]), ((UNDER,), [1, 8]), ((ROUND, 2, GREAT), [4, 3, 3, 6, 5]),
    ((OVER,), [1, 7]), ((DEALT, 8), [1, 12]), ((INSIDE, 1, 2), [1, 2]), ((DEALTTO, 12), [1, 8]),
    ((DEALTPAIRS,), [1, 1155]), ((TOLD,), [2, 7, 11]), ((FOLD, 7, 1), [1, -22]), ((PLACE, 1, 7), [1, -22]),
    ((WHERE, 1, 0), [1, -22]), ((ROUND, 1, 14), [1, -22]), ((DEALT, 77), [1, -22]), ((DEALTTO, 77), [1, -22]),
    ((PAIRS, 0), [1, -22]), ((LONG, 7), [1, -22]), ((FEWEST, 14), [1, -22]), ((BEGIN, 9, 9), [1, -22]),
    ((NEXT,), [1, 13]), ((DEALT, 77), [1, 11]), ((EXCHANGE,), [2, 13, 7]), ((PLACE, 1, 7), [1, 7]),
    ((LONG, 7), [2, 12, 1]), ((TOLD,), [2, 13, 7]), ((BEGIN, 3, 199), [1, 0]), ((NEXT,), [1, -33]),
    ((TOLD,), [2, 3, 199])]
CALLS = [call for call, _ in ASKED]
GIVEN_BACK = [number for _, told in ASKED for number in told]


class Untouched(list):
    """A list that refuses to be changed, for a while too."""

    def refuse(self, *given):
        raise AssertionError("what is handed in was changed")

    append = extend = insert = pop = remove = clear = reverse = sort = refuse
    __setitem__ = __delitem__ = __iadd__ = __imul__ = refuse


class Interface(unittest.TestCase):
    def test_answers_one_behind_another(self):
        self.assertEqual(answers(flat(CALLS)), GIVEN_BACK)

    def test_every_call_is_among_them(self):
        self.assertEqual({call[0] for call in CALLS}, set(range(21)))

    def test_each_call_alone(self):
        self.assertEqual(answers([0, 3, 5]), [1, 0])
        self.assertEqual(answers([0, 3, 3]), [1, -22])
        self.assertEqual(answers([1]), [1, -11])

    def test_plain_ints_in_a_plain_list(self):
        told = answers(flat(CALLS))
        self.assertIs(type(told), list)
        for number in told:
            self.assertIs(type(number), int)

    def test_what_is_handed_in_stays(self):
        handed = flat(CALLS)
        before = list(handed)
        told = answers(handed)
        self.assertEqual(handed, before)
        self.assertIsNot(told, handed)
        self.assertEqual(answers(Untouched(handed)), GIVEN_BACK)

    def test_asked_twice_it_answers_the_same(self):
        handed = flat(CALLS)
        first = answers(handed)
        first_copy = list(first)
        second = answers(handed)
        self.assertEqual(second, first_copy)
        second.append(0)
        self.assertEqual(first, first_copy)
        self.assertEqual(answers(handed), first_copy)

    def test_each_time_the_object_is_new(self):
        answers([BEGIN, 3, 5])
        self.assertEqual(answers([UNDER]), [1, -11])
        self.assertEqual(answers([EXCHANGE, BEGIN, 5, 7, EXCHANGE]), [1, -11, 1, 0, 2, 7, 5])
        self.assertEqual(answers([EXCHANGE]), [1, -11])

    def test_sixty_calls(self):
        handed = [BEGIN, 199, 197] + [FOLDEDALL, GREAT] * 59
        told = answers(handed)
        self.assertEqual(len(told), 2 + 59 * 101)
        self.assertEqual(told[2:103] * 59, told[2:])
        self.assertEqual(told[2:4], [100, 99])

    def test_sixty_calls_of_all_kinds(self):
        kinds = [(TOLD,), (UNDER,), (OVER,), (DEALTPAIRS,), (FOLD, 2, 1), (FOLDS, 2), (FOLDEDALL, 2), (COLUMN, 1),
                 (ROW, 1), (INSIDE, 1, 1), (PLACE, 2, 1), (WHERE, 2, 1), (PAIRS, 2), (LONG, 2), (FEWEST, 2),
                 (ROUND, 2, 1), (DEALT, 1), (DEALTTO, 1)]
        calls = [(BEGIN, 199, 197)] + kinds + [(EXCHANGE,)] + kinds + [(EXCHANGE,)] + kinds + [
            (NEXT,), (TOLD,), (BEGIN, 3, 3)]
        self.assertEqual(len(calls), 60)
        told = split(answers(flat(calls)))
        self.assertEqual(len(told), 60)
        self.assertEqual(told[1:19], told[39:57])
        for at in range(20, 38):
            alone = split(answers(flat([(BEGIN, 197, 199), calls[at]])))
            self.assertEqual(told[at], alone[1])
        self.assertEqual([told[0], told[1], told[19], told[38]] + told[57:],
                         [[0], [199, 197], [197, 199], [199, 197], [-33], [199, 197], [-22]])

    def test_sixty_times_the_longest_way(self):
        self.assertEqual(answers([BEGIN, 199, 197] + [PAIRS, 198] * 59), [1, 0] + [1, 198 * 197 // 2] * 59)
        told = answers([BEGIN, 199, 197] + [ROUND, 3, GREAT] * 59)
        self.assertEqual(len(told), 2 + 59 * 200)
        self.assertEqual(told[2:202] * 59, told[2:])

    def test_nothing_is_printed(self):
        out, err = io.StringIO(), io.StringIO()
        with contextlib.redirect_stdout(out), contextlib.redirect_stderr(err):
            answers(flat(CALLS))
        self.assertEqual(out.getvalue() + err.getvalue(), "")


if __name__ == "__main__":
    unittest.main()
