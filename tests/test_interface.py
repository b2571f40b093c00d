"""How calls are handed in as one list, and answers given back as one."""

import unittest

from keptaway.table import answers
from tests.helper import GREATEST, NAMES, run, written

CALLS = [("state",), ("begin", 2), ("own", 0, 1), ("send", 0, 1, 2), ("receive", 1, 0, 3), ("own", 1, 4), ("back",),
         ("own", 1, 5), ("test", 1, 40), ("own", 0, 6), ("arrow", 1, 2, 0, 3), ("arrow", 0, 3, 1, 1), ("loose", 1),
         ("own", GREATEST, GREATEST), ("states",), ("bad",), ("kept",), ("arrows",), ("begin", 9), ("state",)]


# Each of the questions, on two machines' two things of which the second ones' values fail, and behind a take.
ASKED = [("orders",), ("surely",), ("misses",), ("miss", 1), ("miss", 2), ("before", 0, 1, 0, 2), ("singles",),
         ("best",), ("leaves", 0, 1, 1, 2), ("prevent",), ("idle",), ("take",), ("idle",), ("fits",), ("holds", 1, 1), ("holds",),
         ("holds", *[GREATEST] * 8), ("miss", GREATEST), ("before", *[GREATEST] * 4), ("leaves", *[GREATEST] * 4)]
ASKING = [("begin", 2), ("own", 0, 1), ("own", 0, 0), ("own", 1, 1), ("own", 1, 0), ("test", 0, 2), ("test", 1, 2),
          *ASKED]


class Watched(list):
    """A list that can't be changed."""

    def refuse(self, *given):
        raise AssertionError("changed")

    append = extend = insert = pop = remove = clear = sort = reverse = refuse
    __setitem__ = __delitem__ = __iadd__ = __imul__ = refuse


class Answers(unittest.TestCase):
    def test_written_out(self):
        calls = [0, 1, 2, 0, 1, 2, 0, 5, 0, 2, 3, 0, 1, 7, 0, 3, 3, 1, 0, 2, 0, 5, 0, 0, 6, 2, 1, 4, 0, 7, 4, 0, 1, 1, 1, 0,
                 8, 1, 0, 0, 9, 0, 0, 10, 0, 0, 11, 0, 0, 12, 0, 0, 4, 0, 0]
        expected = [1, 0, 1, 1, 2, 2, 0, 1, 1, 7, 2, 1, 2, 1, 0, 0, 1, 1, 1023, 1, -17, 1, -2, 1, 0, 1, 4, 3, 1, 2, 1,
                    1, 0, 1, 2]
        self.assertEqual(answers(calls), expected)

    def test_written_out_questions(self):
        """The numbers of before come the other way round than those of leaves and arrow: its first thing is m's."""
        told = [0, 1, 2, 0, 1, 2, 0, 1, 0, 1, 2, 0, 0, 0, 1, 2, 1, 1, 0, 1, 2, 1, 0, 0, 6, 2, 0, 2, 0, 6, 2, 1, 2, 0]
        given = [1, 0, 1, 1, 1, 2, 1, 1, 1, 2, 1, 1023, 1, 1023]
        asked = [
            ([13, 0, 0], [2, 6, 6]), ([14, 0, 0], [1, 0]), ([15, 0, 0], [1, 2]), ([16, 1, 1, 0], [5, 4, 1, 1, 0, 0]),
            ([16, 1, 2, 0], [1, -33]), ([17, 4, 0, 1, 0, 2, 0], [2, 1, 0]), ([17, 4, 0, 2, 0, 1, 0], [2, 0, 1]),
            ([17, 4, 1, 3, 0, 1, 0], [1, -2]), ([18, 0, 0], [9, 2, 0, 2, 1, 1, 1, 2, 0, 1]),
            ([19, 0, 0], [5, 1, 0, 2, 1, 1]), ([20, 4, 0, 1, 1, 2, 0], [2, 5, 0]), ([20, 4, 0, 2, 1, 1, 0], [2, 1, 1]),
            ([21, 0, 0], [5, 1, 0, 2, 1, 1]), ([23, 0, 0], [1, -33]), ([24, 0, 0], [1, 1]),
            ([25, 2, 1, 1, 0], [2, 1, 1]), ([25, 2, 0, 1, 0], [2, 1, 0]), ([25, 0, 0], [1, -22]),
            ([25, 8, 0, 0, 0, 0, 0, 0, 0, 0, 0], [1, -22]), ([22, 0, 0], [1, 1]), ([23, 0, 0], [1, 0]),
            ([17, 4, 0, 2, 1, 1, 0], [2, 1, 0]), ([17, 4, 1, 1, 0, 2, 0], [2, 0, 1]),
            ([20, 4, 0, 2, 1, 1, 0], [1, -17]), ([20, 4, 1, 1, 0, 2, 0], [1, -14]), ([25, 2, 1, 1, 0], [2, 0, 1]), ([13, 0, 0], [2, 1, 6])]
        self.assertEqual(answers(told), given)
        self.assertEqual(answers(told + [number for call, answer in asked for number in call]),
                         given + [number for call, answer in asked for number in answer])

    def test_one_call(self):
        self.assertEqual(answers([0, 1, 4, 0]), [1, 0])
        self.assertEqual(answers([0, 1, GREATEST, 0]), [1, -22])
        self.assertEqual(answers([12, 0, 0]), [1, -11])

    def test_ordinary_line(self):
        expected = [[-11], [0], [1], [2, 0], [1], [2], [3], [2], [1023], [3], [1], [-14], [-2], [-2], [6], [3, 2, 1],
                    [0], [1, 1, 2, 0, 3], [-22], [2, 1, 3, 2, 0, 0, 1, 1, 0]]
        self.assertEqual(run(*CALLS), expected)

    def test_whole_numbers_in_a_list(self):
        for line in (CALLS, ASKING):
            given = answers(written(line))
            self.assertIs(type(given), list)
            self.assertEqual({type(number) for number in given}, {int})

    def test_what_is_handed_in_is_not_changed(self):
        for line in (CALLS, ASKING):
            calls = written(line)
            kept = list(calls)
            given = answers(calls)
            self.assertEqual(calls, kept)
            self.assertIsNot(given, calls)
            self.assertEqual(answers(Watched(kept)), given)

    def test_twice_answers_the_same(self):
        for line in (CALLS, ASKING):
            calls = written(line)
            given = answers(calls)
            kept = list(given)
            self.assertEqual(answers(calls), kept)
            self.assertEqual(answers([5, 0, 0]), [1, -11])
            given.clear()
            self.assertEqual(answers(calls), kept)

    def test_each_call_answers_behind_a_begin(self):
        """None raises, whatever it's handed, on an object with nothing done, and on one with things and arrows."""
        counts = {"begin": 1, "own": 2, "send": 3, "receive": 3, "test": 2, "arrow": 4, "loose": 1, "miss": 1,
                  "before": 4, "leaves": 4}
        for told in ([("begin", machines)] for machines in (1, 2, 3, 4)):
            for name in NAMES:
                for number in (0, 1, 2, 6, 7, 1024, GREATEST):
                    for asked in ((name,) + (number,) * counts.get(name, 0), ("holds",) + (number,) * (number % 9)):
                        found = run(*told, asked, ("state",))
                        self.assertEqual([len(answer) > 0 for answer in found], [True] * 3)
                        found = run(*told, ("own", 0, 1), ("send", 0, 1, 0), ("receive", 1, 0, 1),
                                    ("arrow", 0, 1, 1, 1), ("test", 0, 2), asked, ("state",))
                        self.assertEqual([len(answer) > 0 for answer in found], [True] * 8)

    def test_refusals_are_told_alone(self):
        for told, found in ((CALLS, run(*CALLS)), (ASKING, run(*ASKING))):
            for call, answer in zip(told, found):
                self.assertTrue(answer[0] >= 0 or len(answer) == 1, call)


if __name__ == "__main__":
    unittest.main()
