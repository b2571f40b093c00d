"""Point 2: test, arrow, loose, arrows."""

import unittest

from tests.helper import GREATEST, assert_refused, last, run

PAIR = [("begin", 2), ("own", 0, 1), ("own", 0, 2), ("own", 1, 3), ("own", 1, 4)]


class Test(unittest.TestCase):
    def test_answers_which_it_was(self):
        found = run(("begin", 2), ("test", 0, 5), ("test", 1, 0), ("test", 0, 1023), ("test", 0, 0), ("test", 1, 1))
        self.assertEqual(found[1:], [[1023], [1023], [5], [1023], [0]])

    def test_refusals(self):
        for machine in (2, 3, GREATEST):
            for values in (0, 1023, 1024, GREATEST):
                assert_refused(self, PAIR + [("test", 1, 7)], ("test", machine, values), -2)
        for values in (1024, 1025, GREATEST):
            assert_refused(self, PAIR + [("test", 1, 7)], ("test", 1, values), -22)

    def test_begin_puts_all_values_in(self):
        self.assertEqual(last(("begin", 2), ("test", 1, 3), ("begin", 2), ("test", 1, 3)), [1023])


class Arrow(unittest.TestCase):
    def test_tells_how_many(self):
        found = run(*PAIR, ("arrow", 0, 1, 1, 1), ("arrow", 1, 1, 0, 2), ("arrows",), ("states",))
        self.assertEqual(found[5:], [[1], [2], [2, 0, 1, 1, 1, 1, 1, 0, 2], [6]])

    def test_keeps_states_away(self):
        self.assertEqual(last(*PAIR, ("states",)), [9])
        self.assertEqual(last(*PAIR, ("arrow", 0, 2, 1, 1), ("states",)), [5])
        self.assertEqual(last(*PAIR, ("arrow", 0, 1, 1, 2), ("states",)), [8])
        self.assertEqual(last(*PAIR, ("arrow", 1, 1, 0, 1), ("states",)), [7])

    def test_to_a_first_thing(self):
        found = run(("begin", 2), ("own", 0, 1), ("own", 1, 1), ("arrow", 0, 1, 1, 1), ("states",))
        self.assertEqual(found[3:], [[1], [3]])

    def test_none_such(self):
        wrong = ((2, 1), (0, 0), (0, 3), (GREATEST, 1), (0, GREATEST), (2, 0))
        for machine, thing in wrong:
            assert_refused(self, PAIR, ("arrow", machine, thing, 1, 1), -2)
            assert_refused(self, PAIR, ("arrow", 1, 1, machine, thing), -2)
            assert_refused(self, PAIR, ("arrow", 0, 1, machine, thing), -2)
            assert_refused(self, PAIR, ("arrow", machine, thing, machine, thing), -2)
        assert_refused(self, [("begin", 2)], ("arrow", 0, 1, 1, 1), -2)

    def test_thing_that_another_machine_has(self):
        told = [("begin", 2), ("own", 0, 1), ("own", 0, 1), ("own", 1, 1)]
        assert_refused(self, told, ("arrow", 0, 1, 1, 2), -2)
        assert_refused(self, told, ("arrow", 1, 2, 0, 1), -2)

    def test_one_machine(self):
        for j in (1, 2):
            for i in (1, 2):
                assert_refused(self, PAIR, ("arrow", 0, j, 0, i), -22)
        assert_refused(self, [("begin", 1), ("own", 0, 1), ("own", 0, 1)], ("arrow", 0, 1, 0, 2), -22)

    def test_ring_by_an_arrow(self):
        told = PAIR + [("arrow", 0, 1, 1, 2)]
        assert_refused(self, told, ("arrow", 1, 2, 0, 1), -14)
        self.assertEqual(last(*told, ("arrow", 1, 1, 0, 1)), [2])
        self.assertEqual(last(*told, ("arrow", 1, 2, 0, 2)), [2])

    def test_ring_by_a_message(self):
        told = [("begin", 2), ("own", 0, 1), ("send", 0, 1, 1), ("own", 1, 1), ("receive", 1, 0, 1), ("own", 1, 1)]
        for i in (1, 2):
            assert_refused(self, told, ("arrow", 1, 2, 0, i), -14)
            assert_refused(self, told, ("arrow", 1, 3, 0, i), -14)
            self.assertEqual(last(*told, ("arrow", 1, 1, 0, i)), [1])

    def test_ring_by_messages_over_machines(self):
        told = [("begin", 3), ("send", 0, 1, 1), ("receive", 1, 0, 1), ("send", 1, 2, 1), ("receive", 2, 1, 1)]
        assert_refused(self, told, ("arrow", 2, 1, 0, 1), -14)
        assert_refused(self, told, ("arrow", 0, 1, 2, 1), -17)
        told = [("begin", 3), ("send", 0, 1, 1), ("send", 1, 2, 1), ("receive", 1, 0, 1), ("receive", 2, 1, 1)]
        self.assertEqual(last(*told, ("arrow", 2, 1, 0, 1)), [1])

    def test_ring_by_arrow_and_message(self):
        told = [("begin", 3), ("own", 0, 1), ("send", 1, 2, 1), ("receive", 2, 0, 1), ("arrow", 0, 1, 1, 1)]
        assert_refused(self, told, ("arrow", 2, 1, 0, 1), -14)

    def test_unreceived_message_makes_no_ring(self):
        self.assertEqual(last(("begin", 2), ("send", 0, 1, 1), ("own", 1, 1), ("arrow", 1, 1, 0, 1)), [1])

    def test_before_already(self):
        told = PAIR + [("arrow", 0, 1, 1, 1)]
        assert_refused(self, told, ("arrow", 0, 1, 1, 1), -17)
        assert_refused(self, told, ("arrow", 0, 1, 1, 2), -17)
        self.assertEqual(last(*told, ("arrow", 0, 2, 1, 1)), [2])
        told = [("begin", 2), ("own", 0, 1), ("send", 0, 1, 1), ("receive", 1, 0, 1), ("own", 1, 1)]
        for j in (1, 2):
            for i in (1, 2):
                assert_refused(self, told, ("arrow", 0, j, 1, i), -17)

    def test_one_that_does_what_two_did(self):
        told = PAIR + [("arrow", 0, 1, 1, 1), ("arrow", 0, 2, 1, 2), ("arrow", 0, 2, 1, 1)]
        found = run(*told, ("arrows",), ("states",), ("loose", 0), ("states",), ("loose", 0), ("states",))
        self.assertEqual(found[5:], [[1], [2], [3], [3, 0, 1, 1, 1, 0, 2, 1, 2, 0, 2, 1, 1], [5], [2], [5], [1], [5]])

    def test_thing_told_since_behind_an_arrow(self):
        told = [("begin", 3), ("own", 0, 1), ("own", 1, 1), ("arrow", 0, 1, 1, 1), ("send", 1, 2, 1),
                ("receive", 2, 0, 1)]
        assert_refused(self, told, ("arrow", 2, 1, 0, 1), -14)
        assert_refused(self, told, ("arrow", 0, 1, 2, 1), -17)
        found = run(*told, ("states",), ("own", 0, 1), ("states",), ("arrow", 2, 1, 0, 2), ("states",))
        self.assertEqual(found[6:], [[5], [2], [9], [2], [6]])

    def test_since_an_arrow_is_loosed(self):
        told = PAIR + [("arrow", 0, 1, 1, 1), ("loose", 0)]
        self.assertEqual(last(*told, ("arrow", 1, 1, 0, 1)), [1])
        self.assertEqual(last(*told, ("arrow", 0, 1, 1, 1)), [1])


class SixArrows(unittest.TestCase):
    TOLD = [("begin", 2)] + [("own", 0, 1), ("own", 1, 1)] * 6
    SIX = [("arrow", 0, which, 1, which) for which in (6, 5, 4, 3, 2, 1)]

    def test_six_and_no_more(self):
        found = run(*self.TOLD, *self.SIX)
        self.assertEqual(found[-6:], [[1], [2], [3], [4], [5], [6]])
        assert_refused(self, self.TOLD + self.SIX, ("arrow", 0, 2, 1, 1), -28)

    def test_the_others_come_first(self):
        told = self.TOLD + self.SIX
        assert_refused(self, told, ("arrow", 0, 7, 1, 1), -2)
        assert_refused(self, told, ("arrow", 0, 2, 0, 1), -22)
        assert_refused(self, told, ("arrow", 1, 1, 0, 1), -14)
        assert_refused(self, told, ("arrow", 0, 1, 1, 1), -17)

    def test_one_loosed_leaves_room(self):
        found = run(*self.TOLD, *self.SIX, ("loose", 3), ("arrow", 0, 2, 1, 1), ("arrow", 0, 4, 1, 3))
        self.assertEqual(found[-3:], [[5], [6], [-28]])


class Loose(unittest.TestCase):
    TOLD = PAIR + [("arrow", 0, 2, 1, 2), ("arrow", 0, 1, 1, 1), ("arrow", 1, 1, 0, 2)]

    def test_those_behind_are_one_less(self):
        rest = ([0, 1, 1, 1, 1, 1, 0, 2], [0, 2, 1, 2, 1, 1, 0, 2], [0, 2, 1, 2, 0, 1, 1, 1])
        for arrow, left in enumerate(rest):
            found = run(*self.TOLD, ("loose", arrow), ("arrows",))
            self.assertEqual(found[-2:], [[2], [2] + left])

    def test_down_to_none(self):
        found = run(*self.TOLD, ("loose", 0), ("loose", 0), ("loose", 0), ("arrows",), ("states",), ("loose", 0))
        self.assertEqual(found[-6:], [[2], [1], [0], [0], [9], [-2]])

    def test_none_such(self):
        for arrow in (3, 4, 6, GREATEST):
            assert_refused(self, self.TOLD, ("loose", arrow), -2)
        assert_refused(self, PAIR, ("loose", 0), -2)

    def test_messages_stay(self):
        told = [("begin", 2), ("send", 0, 1, 1), ("receive", 1, 0, 1), ("own", 0, 1), ("arrow", 1, 1, 0, 2)]
        self.assertEqual(run(*told, ("loose", 0), ("states",))[-2:], [[0], [5]])


if __name__ == "__main__":
    unittest.main()
