"""Point 3: states, bad, kept, holds, before."""

import itertools
import unittest

from tests.helper import GREATEST, assert_refused, last, run


VALUES = [[(3 * machine + which * which) % 10 for which in range(1, 7)] for machine in range(4)]


class States(unittest.TestCase):
    def test_without_messages_and_arrows(self):
        counts = (3, 1, 2, 4)
        for machines in (1, 2, 3, 4):
            told = [("begin", machines)]
            expected = 1
            for machine in range(machines):
                told += [("own", machine, 1)] * counts[machine]
                expected *= counts[machine] + 1
            self.assertEqual(last(*told, ("states",)), [expected])

    def test_messages_both_ways(self):
        told = [("begin", 2), ("send", 0, 1, 1), ("receive", 1, 0, 1), ("send", 1, 0, 1), ("receive", 0, 1, 1)]
        self.assertEqual(last(*told, ("states",)), [5])

    def test_crossing_messages(self):
        told = [("begin", 2), ("send", 0, 1, 1), ("send", 1, 0, 1), ("receive", 1, 0, 1), ("receive", 0, 1, 1)]
        self.assertEqual(last(*told, ("states",)), [7])

    def test_asking_changes_nothing(self):
        asked = [("states",), ("bad",), ("kept",), ("state",), ("arrows",)]
        found = run(("begin", 2), ("own", 0, 1), ("send", 1, 0, 1), ("arrow", 0, 1, 1, 1), *asked, *asked)
        self.assertEqual(found[4:9], found[9:])


class Bad(unittest.TestCase):
    def test_at_first(self):
        told = [("begin", 2), ("own", 0, 1), ("own", 1, 1), ("test", 0, 1), ("test", 1, 1)]
        self.assertEqual(run(*told, ("bad",), ("kept",))[-2:], [[1, 0, 0], [0]])

    def test_at_last(self):
        told = [("begin", 2), ("own", 0, 1), ("own", 1, 1), ("test", 0, 2), ("test", 1, 2)]
        self.assertEqual(run(*told, ("bad",), ("kept",))[-2:], [[1, 1, 1], [0]])
        self.assertEqual(run(*told, ("arrow", 0, 1, 1, 1), ("bad",), ("kept",))[-2:], [[1, 1, 1], [0]])

    def test_none_at_all(self):
        told = [("begin", 2), ("own", 0, 1), ("own", 1, 1), ("test", 0, 4)]
        self.assertEqual(run(*told, ("bad",), ("kept",))[-2:], [[0], [1]])
        self.assertEqual(run(("begin", 1), ("test", 0, 0), ("bad",), ("kept",))[-2:], [[0], [1]])

    def test_one_machine(self):
        told = [("begin", 1), ("own", 0, 3), ("own", 0, 4), ("own", 0, 3), ("test", 0, 8)]
        self.assertEqual(run(*told, ("states",), ("bad",), ("kept",))[-3:], [[4], [2, 1], [0]])
        self.assertEqual(run(*told, ("test", 0, 1), ("bad",), ("test", 0, 16), ("bad",))[-3:], [[1, 0], [1], [1, 2]])

    def test_an_arrow_keeps_it_away(self):
        told = [("begin", 2), ("own", 0, 1), ("own", 0, 0), ("own", 1, 1), ("own", 1, 0), ("test", 0, 2),
                ("test", 1, 2)]
        found = run(*told, ("bad",), ("kept",), ("arrow", 0, 2, 1, 1), ("bad",), ("kept",), ("loose", 0), ("bad",),
                    ("kept",), ("arrow", 0, 1, 1, 1), ("bad",), ("kept",))
        self.assertEqual(found[7:], [[1, 1, 1], [0], [1], [0], [1], [0], [1, 1, 1], [0], [1], [1, 1, 1], [0]])

    def test_a_message_keeps_it_away(self):
        told = [("begin", 2), ("test", 0, 2), ("test", 1, 2), ("own", 0, 1), ("send", 0, 1, 0)]
        self.assertEqual(run(*told, ("receive", 1, 0, 1), ("bad",), ("kept",))[-2:], [[0], [1]])
        self.assertEqual(run(*told, ("own", 1, 1), ("bad",), ("kept",))[-2:], [[1, 1, 1], [0]])

    def test_back_brings_it_away(self):
        told = [("begin", 2), ("test", 0, 2), ("test", 1, 2), ("own", 0, 1), ("own", 1, 1)]
        self.assertEqual(run(*told, ("kept",), ("back",), ("kept",))[-3:], [[0], [1], [1]])

    def test_greatest_value(self):
        told = [("begin", 1), ("own", 0, 9), ("test", 0, 512)]
        self.assertEqual(last(*told, ("bad",)), [1, 1])
        self.assertEqual(last(*told, ("test", 0, 511), ("bad",)), [1, 0])

    def test_the_least_number_is_told(self):
        """A later machine counts more: of (0, 1) and (6, 0) it is the second that has the lesser number."""
        values = ([0, 0, 0, 0, 0, 1], [1])
        told = [("begin", 2)] + [("own", machine, value) for machine in (0, 1) for value in values[machine]]
        told += [("test", 0, 2), ("test", 1, 3)]
        self.assertEqual(last(*told, ("bad",)), [2, 6, 0])
        # Bad is what has 1 or 2 done of each; an arrow leaves a part of that.
        told = [("begin", 2), ("own", 0, 1), ("own", 0, 1), ("own", 1, 1), ("own", 1, 1), ("test", 0, 2),
                ("test", 1, 2), ("send", 0, 1, 0)]
        self.assertEqual(last(*told, ("bad",)), [4, 1, 1])
        self.assertEqual(last(*told, ("arrow", 0, 2, 1, 1), ("bad",)), [2, 2, 1])
        self.assertEqual(last(*told, ("arrow", 1, 2, 0, 1), ("bad",)), [2, 1, 2])

    def test_the_least_number_with_three_machines(self):
        told = [("begin", 3)] + [("own", machine, 1) for machine in (0, 1, 2)]
        told += [("send", 0, 1, 2), ("send", 1, 2, 2), ("test", 0, 6), ("test", 1, 6), ("test", 2, 3)]
        self.assertEqual(last(*told, ("bad",)), [8, 1, 1, 0])
        self.assertEqual(last(*told, ("arrow", 2, 1, 0, 1), ("bad",)), [4, 1, 1, 1])
        self.assertEqual(last(*told, ("arrow", 2, 1, 0, 2), ("bad",)), [6, 1, 1, 0])
        self.assertEqual(last(*told, ("arrow", 0, 2, 1, 1), ("bad",)), [4, 2, 1, 0])

    def test_only_states_they_may_have_stood_in(self):
        told = [("begin", 2), ("send", 0, 1, 1), ("receive", 1, 0, 1), ("test", 0, 1), ("test", 1, 2)]
        self.assertEqual(run(*told, ("bad",), ("kept",))[-2:], [[0], [1]])


class Holds(unittest.TestCase):
    # Bad is one done of the first machine, whatever the second did; the message shuts out (0, 1).
    TOLD = [("begin", 2), ("send", 0, 1, 1), ("receive", 1, 0, 5), ("own", 0, 2), ("test", 0, 2)]

    def test_each_state(self):
        told = {(0, 0): [1, 0], (1, 0): [1, 1], (2, 0): [1, 0], (0, 1): [0, 0], (1, 1): [1, 1], (2, 1): [1, 0]}
        for counts, answer in told.items():
            self.assertEqual(last(*self.TOLD, ("holds", *counts)), answer, counts)

    def test_bad_where_they_can_not_have_stood(self):
        found = run(*self.TOLD, ("test", 0, 1), ("holds", 0, 1), ("holds", 0, 0), ("holds", 1, 1))
        self.assertEqual(found[-3:], [[0, 1], [1, 1], [1, 0]])

    def test_arrows_count(self):
        found = run(*self.TOLD, ("arrow", 1, 1, 0, 2), ("holds", 2, 0), ("holds", 2, 1), ("loose", 0), ("holds", 2, 0))
        self.assertEqual(found[-4:], [[0, 0], [1, 0], [0], [1, 0]])

    def test_one_number_for_each_machine(self):
        for machines in (1, 2, 3, 4):
            for count in range(9):
                call = ("holds",) + (0,) * count
                if count == machines:
                    self.assertEqual(last(("begin", machines), call), [1, 1])
                else:
                    assert_refused(self, [("begin", machines)], call, -22)

    def test_too_many_and_too_few(self):
        for numbers in ((), (1,), (0,), (1, 1, 0), (0,) * 8, (GREATEST,) * 8, (GREATEST,)):
            assert_refused(self, self.TOLD, ("holds", *numbers), -22)

    def test_greater_than_what_that_machine_did(self):
        for numbers in ((3, 0), (0, 2), (3, 2), (GREATEST, 0), (0, GREATEST), (7, 0), (8, 0), (0, 8)):
            assert_refused(self, self.TOLD, ("holds", *numbers), -22)
        self.assertEqual(last(*self.TOLD, ("own", 1, 0), ("holds", 0, 2)), [0, 0])
        assert_refused(self, self.TOLD + [("back",)], ("holds", 2, 0), -22)

    def test_machines_are_not_mixed_up(self):
        told = [("begin", 4)] + [("own", machine, machine) for machine in range(4) for number in range(machine + 1)]
        told += [("test", machine, 1 << machine) for machine in range(1, 4)]
        self.assertEqual(last(*told, ("holds", 1, 2, 3, 4)), [1, 1])
        for machine in range(4):
            counts = [1, 2, 3, 4]
            counts[machine] += 1
            assert_refused(self, told, ("holds", *counts), -22)
        self.assertEqual(last(*told, ("holds", 0, 1, 1, 1)), [1, 1])
        self.assertEqual(last(*told, ("holds", 1, 0, 1, 1)), [1, 0])
        self.assertEqual(last(*told, ("holds", 1, 1, 0, 1)), [1, 0])
        self.assertEqual(last(*told, ("holds", 1, 1, 1, 0)), [1, 0])

    def test_six_done_of_each(self):
        told = [("begin", 4)] + [("own", machine, 3) for machine in range(4)] * 6
        self.assertEqual(last(*told, ("holds", 6, 6, 6, 6)), [1, 1])
        assert_refused(self, told, ("holds", 6, 6, 6, 7), -22)
        assert_refused(self, told, ("holds", 7, 0, 0, 0), -22)


class Before(unittest.TestCase):
    TOLD = [("begin", 3), ("own", 0, 1), ("send", 0, 1, 1), ("own", 1, 1), ("receive", 1, 0, 1), ("own", 2, 1)]

    def test_by_a_message(self):
        found = run(*self.TOLD, ("before", 0, 2, 1, 2), ("before", 1, 2, 0, 2), ("before", 0, 1, 1, 2),
                    ("before", 0, 1, 1, 1), ("before", 0, 2, 2, 1))
        self.assertEqual(found[-5:], [[1, 0], [0, 1], [1, 0], [0, 0], [0, 0]])

    def test_of_one_machine(self):
        self.assertEqual(last(*self.TOLD, ("before", 0, 1, 0, 2)), [1, 0])
        self.assertEqual(last(*self.TOLD, ("before", 0, 2, 0, 1)), [0, 1])

    def test_the_same_thing(self):
        for machine, thing in ((0, 1), (0, 2), (1, 1), (1, 2), (2, 1)):
            self.assertEqual(last(*self.TOLD, ("before", machine, thing, machine, thing)), [0, 0])

    def test_by_arrows(self):
        told = self.TOLD + [("arrow", 1, 2, 2, 1)]
        found = run(*told, ("before", 1, 2, 2, 1), ("before", 1, 1, 2, 1), ("before", 0, 1, 2, 1),
                    ("before", 2, 1, 0, 2), ("loose", 0), ("before", 1, 2, 2, 1))
        self.assertEqual(found[-6:], [[1, 0], [1, 0], [1, 0], [0, 1], [0], [0, 0]])

    def test_by_an_arrow_to_a_first_thing(self):
        found = run(*self.TOLD, ("arrow", 2, 1, 0, 1), ("before", 2, 1, 1, 2), ("before", 1, 1, 2, 1))
        self.assertEqual(found[-2:], [[1, 0], [0, 0]])

    def test_a_thing_told_since(self):
        told = self.TOLD + [("arrow", 1, 1, 2, 1), ("own", 2, 1), ("own", 1, 1)]
        found = run(*told, ("before", 1, 1, 2, 2), ("before", 2, 2, 1, 3), ("before", 1, 3, 2, 1))
        self.assertEqual(found[-3:], [[1, 0], [0, 0], [0, 0]])

    def test_an_unreceived_message_binds_nothing(self):
        self.assertEqual(last(("begin", 2), ("send", 0, 1, 1), ("own", 1, 1), ("before", 0, 1, 1, 1)), [0, 0])

    def test_none_such(self):
        for machine, thing in ((3, 1), (0, 0), (0, 3), (2, 2), (GREATEST, 1), (0, GREATEST), (GREATEST, GREATEST)):
            assert_refused(self, self.TOLD, ("before", machine, thing, 1, 1), -2)
            assert_refused(self, self.TOLD, ("before", 1, 1, machine, thing), -2)
            assert_refused(self, self.TOLD, ("before", machine, thing, machine, thing), -2)
        assert_refused(self, [("begin", 2)], ("before", 0, 1, 1, 1), -2)


class FullSize(unittest.TestCase):
    TOLD = [("begin", 4)] + [("own", m, value) for m in range(4) for value in VALUES[m]]
    ARROWS = ((0, 2, 1, 1), (1, 3, 2, 2), (2, 4, 3, 3), (3, 1, 0, 3), (2, 1, 0, 2), (3, 6, 1, 6))
    TESTS = (0b1010101010, 0b0011011001, 0b1100110011, 0b0111001110)

    def by_definition(self):
        stood = []
        for counts in itertools.product(range(7), repeat=4):
            if all(counts[p] >= j or counts[m] < i for p, j, m, i in self.ARROWS):
                stood.append(counts)
        values = [[0] + row for row in VALUES]
        found = [counts for counts in stood
                 if all(self.TESTS[m] >> values[m][counts[m]] & 1 for m in range(4))]
        found.sort(key=lambda counts: sum(count * 7 ** m for m, count in enumerate(counts)))
        return stood, found

    def test_all_states(self):
        self.assertEqual(run(*self.TOLD, ("states",), ("bad",), ("kept",))[-3:], [[2401], [2401, 0, 0, 0, 0], [0]])

    def test_six_arrows(self):
        stood, found = self.by_definition()
        calls = [("arrow",) + row for row in self.ARROWS]
        calls += [("test", machine, values) for machine, values in enumerate(self.TESTS)]
        given = run(*self.TOLD, *calls, ("arrows",), ("states",), ("bad",), ("kept",))
        self.assertEqual(given[25:31], [[1], [2], [3], [4], [5], [6]])
        self.assertEqual(given[-4], [6] + [number for row in self.ARROWS for number in row])
        self.assertEqual(given[-3:], [[len(stood)], [len(found), *found[0]], [0]])

    def test_twelve_messages(self):
        """Each machine sends to the one behind it in turn, and all things come one after another but for the turns."""
        told = [("begin", 4)]
        for turn in range(12):
            told += [("send", turn % 4, (turn + 1) % 4, 1), ("receive", (turn + 1) % 4, turn, 2)]
        self.assertEqual(run(*told, ("states",), ("bad",))[-2:], [[25], [25, 0, 0, 0, 0]])
        self.assertEqual(last(*told, ("state",)), [4, 12, 6, 6, 6, 6] + [
            machine for turn in range(12) for machine in (turn % 4, (turn + 1) % 4)])

    def test_four_hundred_calls(self):
        asked = [("bad",), ("states",), ("kept",)] * 125
        given = run(*self.TOLD, *asked)
        self.assertEqual(len(given), 400)
        self.assertEqual(given[25:], [[2401, 0, 0, 0, 0], [2401], [0]] * 125)


if __name__ == "__main__":
    unittest.main()
