"""How calls are handed in as one list, and answers given back as one."""

import unittest

from keptaway.table import answers
from tests.helper import GREATEST, run, written

CALLS = [("state",), ("begin", 2), ("own", 0, 1), ("send", 0, 1, 2), ("receive", 1, 0, 3), ("own", 1, 4), ("back",),
         ("own", 1, 5), ("test", 1, 40), ("own", 0, 6), ("arrow", 1, 2, 0, 3), ("arrow", 0, 3, 1, 1), ("loose", 1),
         ("own", GREATEST, GREATEST), ("states",), ("bad",), ("kept",), ("arrows",), ("begin", 9), ("state",)]


class Watched(list):
    """A list that can't be changed."""

    def refuse(self, *given):
        raise AssertionError("changed")

    append = extend = insert = pop = remove = clear = sort = reverse = refuse
    __setitem__ = __delitem__ = __iadd__ = __imul__ = refuse


class Answers(unittest.TestCase):
    def test_written_out(self):
        calls = [0, 1, 2, 0, 1, 2, 0, 5, 0, 2, 3, 0, 1, 7, 0, 3, 3, 1, 0, 2, 0, 5, 0, 0, 6, 2, 1, 4, 0, 7, 4, 0, 1, 1, 1, 0,
                 8, 1, 0, 0, 9, 0, 0, 10, 0, 0, 11, 0, 0, 12, 0, 0, 4, 0, 0]
        expected = [1, 0, 1, 1, 2, 2, 0, 1, 1, 7, 2, 1, 2, 1, 0, 0, 1, 1, 1023, 1, -17, 1, -2, 1, 0, 1, 4, 3, 1, 2, 1,
                    1, 0, 1, 2]
        self.assertEqual(answers(calls), expected)

    def test_one_call(self):
        self.assertEqual(answers([0, 1, 4, 0]), [1, 0])
        self.assertEqual(answers([0, 1, GREATEST, 0]), [1, -22])
        self.assertEqual(answers([12, 0, 0]), [1, -11])

    def test_ordinary_line(self):
        expected = [[-11], [0], [1], [2, 0], [1], [2], [3], [2], [1023], [3], [1], [-14], [-2], [-2], [6], [3, 2, 1],
                    [0], [1, 1, 2, 0, 3], [-22], [2, 1, 3, 2, 0, 0, 1, 1, 0]]
        self.assertEqual(run(*CALLS), expected)

    def test_whole_numbers_in_a_list(self):
        given = answers(written(CALLS))
        self.assertIs(type(given), list)
        self.assertEqual({type(number) for number in given}, {int})

    def test_what_is_handed_in_is_not_changed(self):
        calls = written(CALLS)
        kept = list(calls)
        given = answers(calls)
        self.assertEqual(calls, kept)
        self.assertIsNot(given, calls)
        self.assertEqual(answers(Watched(kept)), given)

    def test_twice_answers_the_same(self):
        calls = written(CALLS)
        given = answers(calls)
        self.assertEqual(answers(calls), given)
        self.assertEqual(answers([5, 0, 0]), [1, -11])
        given.clear()
        self.assertEqual(answers(calls), answers(list(calls)))


if __name__ == "__main__":
    unittest.main()
