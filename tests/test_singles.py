"""Point 5: singles, best, leaves."""

import unittest

from tests.helper import GREATEST, assert_refused, last, run
from tests.test_orders import AT_FIRST, AT_LAST, CROSS, NO_WAY_ROUND

ASKED = [("singles",), ("best",)]
# As CROSS, with a message by which the first machine's first thing is before the second's.
BOUND = [("begin", 2), ("send", 0, 1, 1), ("own", 0, 0), ("receive", 1, 0, 1), ("own", 1, 0), ("test", 0, 2),
         ("test", 1, 2)]


class Singles(unittest.TestCase):
    def test_round_the_bad_state(self):
        self.assertEqual(run(*CROSS, *ASKED)[7:], [[2, 0, 2, 1, 1, 1, 2, 0, 1], [1, 0, 2, 1, 1]])

    def test_each_that_goes_past_it(self):
        """Bad is two done of the first machine, and one or two of the second."""
        told = [("begin", 2)] + [("own", 0, value) for value in (0, 1, 0, 0)]
        told += [("own", 1, value) for value in (1, 1, 0)] + [("test", 0, 2), ("test", 1, 2)]
        found = [0, 3, 1, 1, 0, 4, 1, 1, 1, 3, 0, 1, 1, 3, 0, 2]
        self.assertEqual(last(*told, ("singles",)), [4] + found)
        # The first and the last leave four orders each, the others one.
        self.assertEqual(last(*told, ("best",)), [4, 0, 3, 1, 1])
        self.assertEqual(last(*told, ("leaves", 1, 3, 0, 2)), [4, 1])

    def test_the_one_that_leaves_most(self):
        told = [("begin", 2), ("own", 0, 1), ("own", 0, 0), ("own", 1, 1), ("own", 1, 0), ("own", 1, 0), ("test", 0, 2),
                ("test", 1, 2)]
        found = run(*told, *ASKED, ("leaves", 0, 2, 1, 1), ("leaves", 1, 2, 0, 1), ("leaves", 1, 3, 0, 1))
        self.assertEqual(found[8:], [[3, 0, 2, 1, 1, 1, 2, 0, 1, 1, 3, 0, 1], [3, 1, 2, 0, 1], [1, 1], [3, 1], [1, 1]])

    def test_of_like_ones_the_first(self):
        told = [("begin", 3)] + [("own", machine, value) for value in (1, 0) for machine in range(3)]
        told += [("test", machine, 2) for machine in range(3)]
        found = [0, 2, 1, 1, 0, 2, 2, 1, 1, 2, 0, 1, 1, 2, 2, 1, 2, 2, 0, 1, 2, 2, 1, 1]
        self.assertEqual(run(*told, *ASKED)[-2:], [[6] + found, [15, 0, 2, 1, 1]])

    def test_none_that_goes_in_a_ring_by_a_message(self):
        self.assertEqual(run(*BOUND, *ASKED)[7:], [[1, 0, 2, 1, 1], [1, 0, 2, 1, 1]])

    def test_none_that_goes_in_a_ring_by_an_arrow(self):
        self.assertEqual(last(*CROSS, ("arrow", 0, 1, 1, 1), ("singles",)), [1, 0, 2, 1, 1])
        self.assertEqual(last(*CROSS, ("arrow", 1, 1, 0, 1), ("singles",)), [1, 1, 2, 0, 1])
        self.assertEqual(last(*CROSS, ("arrow", 1, 1, 0, 2), ("singles",)), [1, 1, 2, 0, 1])

    def test_with_the_arrows_that_are_put_in(self):
        """Bad are one or three done of each; the arrow keeps away what has three of the second machine."""
        values = (1, 0, 1, 0)
        told = [("begin", 2)] + [("own", machine, value) for machine in (0, 1) for value in values]
        told += [("test", 0, 2), ("test", 1, 2)]
        self.assertEqual(last(*told, ("singles",)), [2, 0, 4, 1, 1, 1, 4, 0, 1])
        self.assertEqual(last(*told, ("arrow", 0, 4, 1, 3), ("singles",)), [2, 0, 4, 1, 1, 1, 2, 0, 1])

    def test_no_bad_state_at_all(self):
        """Every arrow that could be put in keeps it away."""
        told = [("begin", 2), ("own", 0, 1), ("own", 0, 1), ("own", 1, 1), ("test", 1, 0)]
        found = [0, 1, 1, 1, 0, 2, 1, 1, 1, 1, 0, 1, 1, 1, 0, 2]
        self.assertEqual(run(*told, *ASKED)[-2:], [[4] + found, [2, 0, 1, 1, 1]])
        # One of the two things is free of the other machine's still.
        self.assertEqual(run(*told, ("arrow", 0, 1, 1, 1), *ASKED)[-2:], [[2, 0, 2, 1, 1, 1, 1, 0, 2], [1, 0, 2, 1, 1]])
        self.assertEqual(run(*told, ("arrow", 0, 2, 1, 1), *ASKED)[-2:], [[0], [-33]])
        self.assertEqual(run(*BOUND, ("test", 0, 0), *ASKED)[-2:],
                         [[4, 0, 2, 1, 1, 0, 2, 1, 2, 1, 1, 0, 2, 1, 2, 0, 2], [2, 0, 2, 1, 2]])

    def test_none(self):
        for told in (AT_FIRST, AT_LAST, NO_WAY_ROUND, [("begin", 3)], [("begin", 2), ("own", 0, 1)],
                     [("begin", 1), ("own", 0, 1), ("own", 0, 1), ("test", 0, 0)]):
            self.assertEqual(last(*told, ("singles",)), [0])
            assert_refused(self, told, ("best",), -33)

    def test_with_six_arrows(self):
        """That no seventh can be put in is told by arrow alone."""
        told = [("begin", 2)] + [("own", 0, 1), ("own", 1, 1)] * 6
        told += [("arrow", 0, which, 1, which) for which in (6, 5, 4, 3, 2, 1)] + [("test", 0, 0)]
        found = run(*told, ("singles",), ("best",), ("leaves", 0, 2, 1, 1), ("leaves", 0, 6, 1, 1), ("orders",))
        # What is left of C(12, 6) are the rows in which the first is never behind: the sixth Catalan number, 132.
        self.assertEqual(found[-1], [132, 924])
        self.assertEqual(found[-5][0], 30)
        self.assertEqual(found[-3:-1], [[90, 1], [1, 1]])
        self.assertEqual(last(*told, ("arrow", 0, 2, 1, 1)), [-28])


class Leaves(unittest.TestCase):
    def test_orders_and_whether_it_keeps_it_away(self):
        asked = ((0, 1, 1, 1), (0, 1, 1, 2), (0, 2, 1, 1), (0, 2, 1, 2), (1, 1, 0, 1), (1, 1, 0, 2), (1, 2, 0, 1))
        found = run(*CROSS, *[("leaves", *row) for row in asked])
        self.assertEqual(found[7:], [[3, 0], [5, 0], [1, 1], [3, 0], [3, 0], [5, 0], [1, 1]])

    def test_puts_nothing_in(self):
        asked = [("arrows",), ("orders",), ("states",), ("kept",)]
        found = run(*CROSS, *asked, ("leaves", 0, 2, 1, 1), *asked)
        self.assertEqual(found[7:11], found[12:])

    def test_with_the_arrows_that_are_put_in(self):
        asked = [("leaves", 0, 2, 1, 1), ("leaves", 1, 1, 0, 2), ("leaves", 0, 2, 1, 2)]
        found = run(*CROSS, ("arrow", 0, 1, 1, 1), *asked)
        self.assertEqual(found[-3:], [[1, 1], [2, 0], [2, 0]])

    def test_no_order_is_without_it_where_it_is_bad_at_first(self):
        self.assertEqual(last(*AT_FIRST, ("leaves", 0, 2, 1, 1)), [1, 0])
        self.assertEqual(last(*AT_LAST, ("leaves", 0, 1, 1, 1)), [1, 0])

    def test_none_such(self):
        for machine, thing in ((2, 1), (0, 0), (0, 3), (GREATEST, 1), (0, GREATEST), (2, 0)):
            assert_refused(self, CROSS, ("leaves", machine, thing, 1, 1), -2)
            assert_refused(self, CROSS, ("leaves", 1, 1, machine, thing), -2)
            assert_refused(self, CROSS, ("leaves", 0, 1, machine, thing), -2)
        assert_refused(self, [("begin", 2)], ("leaves", 0, 1, 1, 1), -2)

    def test_one_machine(self):
        for j in (1, 2):
            for i in (1, 2):
                assert_refused(self, CROSS, ("leaves", 0, j, 0, i), -22)
        assert_refused(self, [("begin", 1), ("own", 0, 1), ("own", 0, 1)], ("leaves", 0, 1, 0, 2), -22)
        assert_refused(self, [("begin", 1), ("own", 0, 1)], ("leaves", 0, 1, 0, 2), -2)

    def test_ring(self):
        assert_refused(self, BOUND, ("leaves", 1, 1, 0, 1), -14)
        assert_refused(self, BOUND, ("leaves", 1, 2, 0, 1), -14)
        assert_refused(self, CROSS + [("arrow", 0, 1, 1, 1)], ("leaves", 1, 2, 0, 1), -14)
        self.assertEqual(last(*BOUND, ("leaves", 1, 1, 0, 2)), [2, 0])

    def test_so_already(self):
        assert_refused(self, BOUND, ("leaves", 0, 1, 1, 1), -17)
        assert_refused(self, BOUND, ("leaves", 0, 1, 1, 2), -17)
        assert_refused(self, CROSS + [("arrow", 0, 1, 1, 1)], ("leaves", 0, 1, 1, 1), -17)

    def test_an_arrow_to_a_first_thing(self):
        told = [("begin", 2), ("own", 0, 1), ("own", 1, 1), ("test", 0, 1), ("test", 1, 2)]
        found = run(*told, ("leaves", 0, 1, 1, 1), ("leaves", 1, 1, 0, 1), ("singles",))
        self.assertEqual(found[5:], [[1, 1], [1, 0], [1, 0, 1, 1, 1]])


if __name__ == "__main__":
    unittest.main()
