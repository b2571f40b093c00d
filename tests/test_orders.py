"""Point 4: orders, misses, surely, miss, fits."""

import math
import unittest

from tests.helper import GREATEST, assert_refused, last, run

# Each machine passes its test behind its first thing alone: bad is one done of each, and no other state.
CROSS = [("begin", 2), ("own", 0, 1), ("own", 0, 0), ("own", 1, 1), ("own", 1, 0), ("test", 0, 2), ("test", 1, 2)]
ALL_FIVE = [("orders",), ("surely",), ("misses",), ("miss", 0), ("fits",)]
# Values 0, 1, 0 each, and 0 passes: it's bad at first.
AT_FIRST = CROSS[:5] + [("test", 0, 1), ("test", 1, 1)]
AT_LAST = [("begin", 2), ("own", 0, 1), ("own", 1, 1), ("test", 0, 2), ("test", 1, 2)]
# Whatever the second machine did, the first has to go by its first thing.
NO_WAY_ROUND = CROSS + [("test", 1, 3)]


class Orders(unittest.TestCase):
    def test_without_messages_and_arrows(self):
        for counts in ((3,), (2, 2), (6, 6), (3, 1, 2), (2, 3, 1, 2)):
            told = [("begin", len(counts))]
            expected = math.factorial(sum(counts))
            for machine, count in enumerate(counts):
                told += [("own", machine, 1)] * count
                expected //= math.factorial(count)
            self.assertEqual(last(*told, ("orders",)), [expected, expected])

    def test_messages_bind_both(self):
        told = [("begin", 2), ("send", 0, 1, 1), ("own", 0, 1), ("receive", 1, 0, 1), ("own", 1, 1)]
        self.assertEqual(last(*told, ("orders",)), [3, 3])
        self.assertEqual(last(*told, ("back",), ("orders",)), [2, 2])
        self.assertEqual(last(*told, ("back",), ("back",), ("own", 1, 1), ("orders",)), [3, 3])

    def test_arrows_bind_the_first_alone(self):
        found = run(*CROSS, ("arrow", 0, 2, 1, 1), ("orders",), ("loose", 0), ("arrow", 0, 1, 1, 1), ("orders",),
                    ("arrow", 1, 1, 0, 2), ("orders",))
        self.assertEqual(found[7:], [[1], [1, 6], [0], [1], [3, 6], [2], [2, 6]])

    def test_messages_and_arrows(self):
        told = [("begin", 2), ("send", 0, 1, 1), ("own", 0, 1), ("receive", 1, 0, 1), ("own", 1, 1)]
        self.assertEqual(last(*told, ("arrow", 1, 1, 0, 2), ("orders",)), [2, 3])

    def test_nothing_is_done(self):
        for machines in (1, 2, 3, 4):
            self.assertEqual(run(("begin", machines), *ALL_FIVE)[1:], [[1, 1], [1], [0], [-33], [1]])
            found = run(("begin", machines), ("test", 0, 2), *ALL_FIVE)
            self.assertEqual(found[2:], [[1, 1], [0], [1], [0], [1]])

    def test_one_machine(self):
        told = [("begin", 1), ("own", 0, 3), ("own", 0, 4)]
        self.assertEqual(run(*told, ("test", 0, 16), *ALL_FIVE)[4:], [[1, 1], [1], [0], [-33], [1]])
        self.assertEqual(run(*told, ("test", 0, 32), *ALL_FIVE)[4:], [[1, 1], [0], [1], [2, 0, 0], [1]])


class Misses(unittest.TestCase):
    def test_round_the_bad_state(self):
        found = run(*CROSS, *ALL_FIVE, ("miss", 1), ("miss", 2))
        self.assertEqual(found[7:], [[6, 6], [0], [2], [4, 0, 0, 1, 1], [1], [4, 1, 1, 0, 0], [-33]])

    def test_bad_at_first(self):
        self.assertEqual(run(*AT_FIRST, *ALL_FIVE)[7:], [[6, 6], [1], [0], [-33], [1]])

    def test_bad_at_last(self):
        self.assertEqual(run(*AT_LAST, *ALL_FIVE)[5:], [[2, 2], [1], [0], [-33], [1]])

    def test_bad_between_and_no_way_round(self):
        self.assertEqual(run(*NO_WAY_ROUND, ("bad",), *ALL_FIVE)[8:], [[3, 1, 0], [6, 6], [1], [0], [-33], [1]])

    def test_no_bad_state_at_all(self):
        found = run(*CROSS, ("test", 0, 4), *ALL_FIVE, ("miss", 5), ("miss", 6))
        self.assertEqual(found[8:], [[6, 6], [0], [6], [4, 0, 0, 1, 1], [1], [4, 1, 1, 0, 0], [-33]])

    def test_arrows_leave_fewer(self):
        found = run(*CROSS, ("arrow", 1, 1, 0, 1), ("misses",), ("miss", 0), ("miss", 1))
        self.assertEqual(found[7:], [[1], [1], [4, 1, 1, 0, 0], [-33]])

    def test_an_arrow_may_leave_none(self):
        """The one bad state that's left by the arrows is gone through by all orders that are left."""
        told = CROSS + [("arrow", 0, 1, 1, 2), ("arrow", 1, 1, 0, 2)]
        found = run(*told, *ALL_FIVE, ("kept",))
        self.assertEqual(found[9:], [[4, 6], [1], [0], [-33], [0], [0]])

    def test_messages_leave_fewer(self):
        told = [("begin", 2), ("send", 0, 1, 1), ("own", 0, 0), ("receive", 1, 0, 1), ("own", 1, 0), ("test", 0, 2),
                ("test", 1, 2)]
        self.assertEqual(run(*told, *ALL_FIVE, ("miss", 1))[7:], [[3, 3], [0], [1], [4, 0, 0, 1, 1], [1], [-33]])

    def test_three_machines_in_order(self):
        told = [("begin", 3), ("own", 2, 1), ("own", 0, 1), ("own", 1, 1), ("test", 0, 0)]
        rows = ([0, 1, 2], [0, 2, 1], [1, 0, 2], [1, 2, 0], [2, 0, 1], [2, 1, 0])
        found = run(*told, *[("miss", k) for k in range(7)])
        self.assertEqual(found[5:], [[3] + row for row in rows] + [[-33]])

    def test_more_machines_bad_at_once(self):
        """All three have to be past their first thing and not past their second."""
        told = [("begin", 3)] + [("own", machine, value) for value in (1, 0) for machine in range(3)]
        told += [("test", machine, 2) for machine in range(3)]
        # By the middle go 3! * 3! of the 90.
        self.assertEqual(run(*told, ("orders",), ("misses",))[-2:], [[90, 90], [54]])

    def test_refusals_of_miss(self):
        for k in (2, 3, 4, 6, 100, GREATEST):
            assert_refused(self, CROSS, ("miss", k), -33)
        for told in (AT_FIRST, AT_LAST, NO_WAY_ROUND, [("begin", 2)]):
            for k in (0, 1, GREATEST):
                assert_refused(self, told, ("miss", k), -33)


class Fits(unittest.TestCase):
    def test_an_arrow_the_other_way(self):
        self.assertEqual(last(*CROSS, ("arrow", 0, 2, 1, 1), ("fits",)), [1])
        self.assertEqual(last(*CROSS, ("arrow", 1, 1, 0, 1), ("fits",)), [0])
        self.assertEqual(last(*CROSS, ("arrow", 1, 2, 0, 2), ("fits",)), [0])
        self.assertEqual(run(*CROSS, ("arrow", 1, 1, 0, 2), ("loose", 0), ("fits",))[-2:], [[0], [1]])

    def test_by_the_order_of_telling(self):
        told = [("begin", 2), ("own", 1, 1), ("own", 0, 1), ("own", 1, 1)]
        self.assertEqual(last(*told, ("arrow", 1, 1, 0, 1), ("fits",)), [1])
        self.assertEqual(last(*told, ("arrow", 0, 1, 1, 2), ("fits",)), [1])
        self.assertEqual(last(*told, ("arrow", 0, 1, 1, 1), ("fits",)), [0])
        self.assertEqual(last(*told, ("arrow", 1, 2, 0, 1), ("fits",)), [0])

    def test_messages_always_fit(self):
        told = [("begin", 2), ("own", 1, 1), ("send", 0, 1, 1), ("receive", 1, 0, 1)]
        self.assertEqual(last(*told, ("fits",)), [1])
        self.assertEqual(last(*told, ("arrow", 0, 1, 1, 1), ("fits",)), [0])

    def test_a_thing_told_since(self):
        told = CROSS + [("arrow", 1, 1, 0, 1)]
        for machine in (0, 1):
            found = run(*told, ("own", machine, 1), ("fits",), ("back",), ("fits",), ("loose", 0), ("fits",))
            self.assertEqual(found[-5:], [[0], [4], [0], [0], [1]])
            self.assertEqual(last(*CROSS, ("arrow", 0, 1, 1, 1), ("own", machine, 1), ("fits",)), [1])
        # The thing told since waits for what waits by the arrow, and the told order is still none.
        found = run(*told, ("send", 0, 1, 1), ("receive", 1, 0, 1), ("orders",), ("fits",), ("before", 1, 1, 1, 3))
        self.assertEqual(found[-3:], [[4, 10], [0], [1, 0]])

    def test_taken_arrows_may_not_fit(self):
        told = [("begin", 2), ("own", 1, 1), ("own", 1, 0), ("own", 0, 1), ("own", 0, 0), ("test", 0, 2),
                ("test", 1, 2)]
        found = run(*told, ("fits",), ("take",), ("arrows",), ("fits",))
        self.assertEqual(found[-4:], [[1], [1], [1, 0, 2, 1, 1], [0]])


if __name__ == "__main__":
    unittest.main()
