"""What is handed in and given back, and that nothing is kept, changed, printed or read."""

import contextlib
import io
import unittest

from betweenprimes.counting import answers
from tests.asking import (BEGIN, COLUMN, EXCHANGE, FOLD, FOLDEDALL, FOLDS, GREAT, INSIDE, NEXT, OVER, ROW,
                          UNDER, flat)

CALLS = [(UNDER,), (BEGIN, 7, 11), (FOLD, 3, 2), (FOLDS, 11), (FOLDEDALL, GREAT), (COLUMN, 3), (ROW, 5),
         (UNDER,), (OVER,), (INSIDE, 1, 2), (FOLD, 7, 1), (BEGIN, 9, 9), (NEXT,), (EXCHANGE,), (BEGIN, 3, 199),
         (NEXT,)]
TOLD = [1, -11, 1, 0, 2, 1, 1, 1, 2, 4, 3, 3, 1, 2, 1, 4, 1, 3, 1, 8, 1, 7, 1, 2, 1, -22, 1, -22, 1, 13,
        2, 13, 7, 1, 0, 1, -33]


class Untouched(list):
    """A list that refuses to be changed, for a while too."""

    def refuse(self, *given):
        raise AssertionError("what is handed in was changed")

    append = extend = insert = pop = remove = clear = reverse = sort = refuse
    __setitem__ = __delitem__ = __iadd__ = __imul__ = refuse


class Interface(unittest.TestCase):
    def test_answers_one_behind_another(self):
        self.assertEqual(answers(flat(CALLS)), TOLD)

    def test_each_call_alone(self):
        self.assertEqual(answers([0, 3, 5]), [1, 0])
        self.assertEqual(answers([0, 3, 3]), [1, -22])
        self.assertEqual(answers([1]), [1, -11])

    def test_plain_ints_in_a_plain_list(self):
        told = answers(flat(CALLS))
        self.assertIs(type(told), list)
        for number in told:
            self.assertIs(type(number), int)

    def test_what_is_handed_in_stays(self):
        handed = flat(CALLS)
        before = list(handed)
        told = answers(handed)
        self.assertEqual(handed, before)
        self.assertIsNot(told, handed)
        self.assertEqual(answers(Untouched(handed)), TOLD)

    def test_asked_twice_it_answers_the_same(self):
        handed = flat(CALLS)
        first = answers(handed)
        first_copy = list(first)
        second = answers(handed)
        self.assertEqual(second, first_copy)
        second.append(0)
        self.assertEqual(first, first_copy)
        self.assertEqual(answers(handed), first_copy)

    def test_each_time_the_object_is_new(self):
        answers([BEGIN, 3, 5])
        self.assertEqual(answers([UNDER]), [1, -11])
        self.assertEqual(answers([EXCHANGE, BEGIN, 5, 7, EXCHANGE]), [1, -11, 1, 0, 2, 7, 5])
        self.assertEqual(answers([EXCHANGE]), [1, -11])

    def test_sixty_calls(self):
        handed = [BEGIN, 199, 197] + [FOLDEDALL, GREAT] * 59
        told = answers(handed)
        self.assertEqual(len(told), 2 + 59 * 101)
        self.assertEqual(told[2:103] * 59, told[2:])
        self.assertEqual(told[2:4], [100, 99])

    def test_nothing_is_printed(self):
        out, err = io.StringIO(), io.StringIO()
        with contextlib.redirect_stdout(out), contextlib.redirect_stderr(err):
            answers(flat(CALLS))
        self.assertEqual(out.getvalue() + err.getvalue(), "")


if __name__ == "__main__":
    unittest.main()
