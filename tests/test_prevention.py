"""Points 2 and 5: take, prevent, idle."""

import unittest

from tests.helper import assert_refused, last, run
from tests.test_orders import AT_FIRST, AT_LAST, CROSS, NO_WAY_ROUND

SIX_EACH = [("begin", 2)] + [("own", 0, value) for value in (0, 0, 0, 0, 1, 0)]
SIX_EACH += [("own", 1, value) for value in (0, 0, 0, 0, 1, 0)] + [("test", 0, 2), ("test", 1, 2)]
# None of these keeps away the one bad state, five done of each.
SIX_ARROWS = [("arrow", 0, which, 1, which) for which in (6, 5, 4, 3, 2, 1)]
# The second machine has to do its first and its second while the first stands behind its second thing.
TWO_NEEDED = [("begin", 2)] + [("own", 0, value) for value in (1, 0, 1, 1, 1, 1)]
TWO_NEEDED += [("own", 1, value) for value in (1, 0, 0, 0, 0, 0)] + [("test", 0, 2), ("test", 1, 2)]
FIVE_ARROWS = SIX_ARROWS[:5]
HOPELESS = (AT_FIRST, AT_LAST, NO_WAY_ROUND, [("begin", 2)], [("begin", 1), ("own", 0, 3), ("test", 0, 8)])


class Prevent(unittest.TestCase):
    def test_round_the_bad_state(self):
        self.assertEqual(last(*CROSS, ("prevent",)), [1, 0, 2, 1, 1])

    def test_puts_nothing_in(self):
        asked = [("arrows",), ("orders",), ("kept",)]
        found = run(*CROSS, *asked, ("prevent",), *asked)
        self.assertEqual(found[7:10], found[11:])

    def test_the_needless_are_left_out(self):
        """In the order ahead of all others there's a third step to another machine, which keeps nothing away."""
        found = run(*TWO_NEEDED, ("miss", 0), ("prevent",))
        self.assertEqual(found[-2:], [[12, 0, 0, 1, 1, 0, 0, 0, 0, 1, 1, 1, 1], [2, 0, 2, 1, 1, 1, 2, 0, 3]])

    def test_from_the_first_on(self):
        """Either of two arrows would do: the first one is left out."""
        told = [("begin", 3), ("own", 0, 1), ("own", 0, 0), ("own", 1, 1), ("own", 1, 0), ("own", 2, 1), ("own", 2, 0)]
        told += [("test", machine, 2) for machine in range(3)]
        found = run(*told, ("miss", 0), ("prevent",))
        self.assertEqual(found[-2:], [[6, 0, 0, 1, 1, 2, 2], [1, 1, 2, 2, 1]])

    def test_no_arrow_where_the_first_is_before_the_second(self):
        told = [("begin", 2), ("own", 0, 1), ("send", 0, 1, 0), ("receive", 1, 0, 1), ("own", 1, 0), ("test", 0, 2),
                ("test", 1, 2)]
        self.assertEqual(run(*told, ("kept",), ("prevent",))[-2:], [[1], [0]])
        # Here the one order that misses it goes by the sending and the receiving, and then back.
        told = [("begin", 2), ("own", 0, 1), ("send", 0, 1, 0), ("own", 0, 1), ("receive", 1, 0, 1), ("own", 1, 0),
                ("test", 0, 2), ("test", 1, 2)]
        found = run(*told, ("misses",), ("miss", 0), ("prevent",))
        self.assertEqual(found[-3:], [[1], [5, 0, 0, 1, 1, 0], [1, 1, 2, 0, 3]])

    def test_with_the_arrows_that_are_put_in(self):
        self.assertEqual(last(*CROSS, ("arrow", 1, 1, 0, 1), ("prevent",)), [1, 1, 2, 0, 1])
        self.assertEqual(last(*CROSS, ("arrow", 0, 2, 1, 1), ("prevent",)), [0])

    def test_no_bad_state_at_all(self):
        self.assertEqual(last(*CROSS, ("test", 0, 0), ("prevent",)), [0])
        self.assertEqual(last(("begin", 1), ("own", 0, 3), ("test", 0, 16), ("prevent",)), [0])
        self.assertEqual(last(("begin", 4), ("test", 3, 2), ("prevent",)), [0])

    def test_none(self):
        for told in HOPELESS:
            assert_refused(self, told, ("prevent",), -33)
        assert_refused(self, CROSS + [("arrow", 0, 1, 1, 2), ("arrow", 1, 1, 0, 2)], ("prevent",), -33)


class Take(unittest.TestCase):
    def test_puts_them_in(self):
        found = run(*CROSS, ("take",), ("arrows",), ("kept",), ("orders",), ("misses",), ("take",), ("arrows",))
        self.assertEqual(found[7:], [[1], [1, 0, 2, 1, 1], [1], [1, 6], [1], [1], [1, 0, 2, 1, 1]])

    def test_behind_the_others(self):
        told = TWO_NEEDED + [("arrow", 0, 4, 1, 5), ("arrow", 0, 3, 1, 4)]
        found = run(*told, ("take",), ("arrows",), ("kept",), ("loose", 2), ("kept",))
        arrows = [0, 4, 1, 5, 0, 3, 1, 4, 0, 2, 1, 1, 1, 2, 0, 3]
        self.assertEqual(found[-5:], [[4], [4] + arrows, [1], [3], [0]])

    def test_nothing_to_put_in(self):
        found = run(*CROSS, ("test", 0, 0), ("take",), ("arrows",), ("arrow", 0, 1, 1, 1), ("take",), ("arrows",))
        self.assertEqual(found[8:], [[0], [0], [1], [1], [1, 0, 1, 1, 1]])
        self.assertEqual(last(("begin", 2), ("test", 0, 2), ("take",)), [0])

    def test_none(self):
        for told in HOPELESS:
            assert_refused(self, told, ("take",), -33)

    def test_six_are_put_in(self):
        told = SIX_EACH + SIX_ARROWS
        self.assertEqual(last(*told, ("prevent",)), [1, 0, 6, 1, 1])
        assert_refused(self, told, ("take",), -28)
        self.assertEqual(run(*told, ("loose", 5), ("take",), ("kept",))[-3:], [[5], [6], [1]])
        # Where none needs to be put in six are not too many.
        self.assertEqual(run(*told, ("test", 0, 0), ("take",), ("arrows",))[-2:], [[6], last(*told, ("arrows",))])

    def test_two_more_than_six_in_all(self):
        told = TWO_NEEDED + FIVE_ARROWS
        self.assertEqual(last(*told, ("prevent",)), [2, 0, 2, 1, 1, 1, 2, 0, 3])
        assert_refused(self, told, ("take",), -28)
        self.assertEqual(run(*told, ("loose", 0), ("take",), ("kept",))[-3:], [[4], [6], [1]])

    def test_none_comes_ahead_of_too_many(self):
        for tests in ((1, 1), (3, 3), (1023, 1023)):
            told = SIX_EACH + SIX_ARROWS + [("test", machine, tests[machine]) for machine in (0, 1)]
            assert_refused(self, told, ("take",), -33)

    def test_back_behind_a_take(self):
        found = run(*CROSS, ("take",), ("back",), ("back",), ("loose", 0), ("back",))
        self.assertEqual(found[7:], [[1], [3], [-16], [0], [2]])


class Idle(unittest.TestCase):
    def test_none_is_put_in(self):
        self.assertEqual(last(*CROSS, ("test", 0, 0), ("idle",)), [0])
        self.assertEqual(last(("begin", 1), ("test", 0, 2), ("idle",)), [0])

    def test_needed(self):
        self.assertEqual(last(*CROSS, ("arrow", 0, 2, 1, 1), ("idle",)), [0])
        self.assertEqual(last(*CROSS, ("take",), ("idle",)), [0])
        self.assertEqual(last(*TWO_NEEDED, ("take",), ("idle",)), [0])

    def test_no_bad_state_without_any(self):
        told = CROSS + [("test", 0, 0), ("arrow", 0, 1, 1, 1), ("arrow", 1, 1, 0, 2)]
        self.assertEqual(last(*told, ("idle",)), [2, 0, 1])

    def test_one_that_does_what_two_did(self):
        told = CROSS + [("arrow", 0, 1, 1, 1), ("arrow", 0, 2, 1, 2), ("arrow", 0, 2, 1, 1)]
        self.assertEqual(run(*told, ("idle",), ("loose", 1), ("idle",), ("loose", 0), ("idle",))[-5:],
                         [[2, 0, 1], [2], [1, 0], [1], [0]])

    def test_either_but_not_both(self):
        """Without one alone there's no bad state yet, so both are told."""
        told = [("begin", 3)] + [("own", machine, value) for value in (1, 0) for machine in range(3)]
        told += [("test", machine, 2) for machine in range(3)]
        told += [("arrow", 1, 1, 2, 1), ("arrow", 0, 2, 1, 1), ("loose", 0), ("arrow", 0, 2, 2, 1)]
        self.assertEqual(run(*told, ("idle",), ("loose", 1), ("idle",))[-3:], [[2, 0, 1], [1], [0]])

    def test_the_least_first_among_six(self):
        told = SIX_EACH + SIX_ARROWS[:3] + [("arrow", 0, 6, 1, 1)]
        self.assertEqual(last(*told, ("idle",)), [3, 0, 1, 2])
        told = SIX_EACH + SIX_ARROWS[3:] + [("arrow", 0, 6, 1, 4), ("arrow", 0, 6, 1, 3), ("arrow", 1, 1, 0, 2)]
        self.assertEqual(last(*told, ("idle",)), [6, 0, 1, 2, 3, 4, 5])

    def test_there_are_bad_states(self):
        assert_refused(self, CROSS, ("idle",), -33)
        assert_refused(self, CROSS + [("arrow", 0, 1, 1, 1)], ("idle",), -33)
        for told in HOPELESS:
            assert_refused(self, told, ("idle",), -33)


if __name__ == "__main__":
    unittest.main()
