"""Point 3: states, bad, kept."""

import itertools
import unittest

from tests.helper import last, run


VALUES = [[(3 * machine + which * which) % 10 for which in range(1, 7)] for machine in range(4)]


class States(unittest.TestCase):
    def test_without_messages_and_arrows(self):
        counts = (3, 1, 2, 4)
        for machines in (1, 2, 3, 4):
            told = [("begin", machines)]
            expected = 1
            for machine in range(machines):
                told += [("own", machine, 1)] * counts[machine]
                expected *= counts[machine] + 1
            self.assertEqual(last(*told, ("states",)), [expected])

    def test_messages_both_ways(self):
        told = [("begin", 2), ("send", 0, 1, 1), ("receive", 1, 0, 1), ("send", 1, 0, 1), ("receive", 0, 1, 1)]
        self.assertEqual(last(*told, ("states",)), [5])

    def test_crossing_messages(self):
        told = [("begin", 2), ("send", 0, 1, 1), ("send", 1, 0, 1), ("receive", 1, 0, 1), ("receive", 0, 1, 1)]
        self.assertEqual(last(*told, ("states",)), [7])

    def test_asking_changes_nothing(self):
        asked = [("states",), ("bad",), ("kept",), ("state",), ("arrows",)]
        found = run(("begin", 2), ("own", 0, 1), ("send", 1, 0, 1), ("arrow", 0, 1, 1, 1), *asked, *asked)
        self.assertEqual(found[4:9], found[9:])


class Bad(unittest.TestCase):
    def test_at_first(self):
        told = [("begin", 2), ("own", 0, 1), ("own", 1, 1), ("test", 0, 1), ("test", 1, 1)]
        self.assertEqual(run(*told, ("bad",), ("kept",))[-2:], [[1, 0, 0], [0]])

    def test_at_last(self):
        told = [("begin", 2), ("own", 0, 1), ("own", 1, 1), ("test", 0, 2), ("test", 1, 2)]
        self.assertEqual(run(*told, ("bad",), ("kept",))[-2:], [[1, 1, 1], [0]])
        self.assertEqual(run(*told, ("arrow", 0, 1, 1, 1), ("bad",), ("kept",))[-2:], [[1, 1, 1], [0]])

    def test_none_at_all(self):
        told = [("begin", 2), ("own", 0, 1), ("own", 1, 1), ("test", 0, 4)]
        self.assertEqual(run(*told, ("bad",), ("kept",))[-2:], [[0], [1]])
        self.assertEqual(run(("begin", 1), ("test", 0, 0), ("bad",), ("kept",))[-2:], [[0], [1]])

    def test_one_machine(self):
        told = [("begin", 1), ("own", 0, 3), ("own", 0, 4), ("own", 0, 3), ("test", 0, 8)]
        self.assertEqual(run(*told, ("states",), ("bad",), ("kept",))[-3:], [[4], [2, 1], [0]])
        self.assertEqual(run(*told, ("test", 0, 1), ("bad",), ("test", 0, 16), ("bad",))[-3:], [[1, 0], [1], [1, 2]])

    def test_an_arrow_keeps_it_away(self):
        told = [("begin", 2), ("own", 0, 1), ("own", 0, 0), ("own", 1, 1), ("own", 1, 0), ("test", 0, 2),
                ("test", 1, 2)]
        found = run(*told, ("bad",), ("kept",), ("arrow", 0, 2, 1, 1), ("bad",), ("kept",), ("loose", 0), ("bad",),
                    ("kept",), ("arrow", 0, 1, 1, 1), ("bad",), ("kept",))
        self.assertEqual(found[7:], [[1, 1, 1], [0], [1], [0], [1], [0], [1, 1, 1], [0], [1], [1, 1, 1], [0]])

    def test_a_message_keeps_it_away(self):
        told = [("begin", 2), ("test", 0, 2), ("test", 1, 2), ("own", 0, 1), ("send", 0, 1, 0)]
        self.assertEqual(run(*told, ("receive", 1, 0, 1), ("bad",), ("kept",))[-2:], [[0], [1]])
        self.assertEqual(run(*told, ("own", 1, 1), ("bad",), ("kept",))[-2:], [[1, 1, 1], [0]])

    def test_back_brings_it_away(self):
        told = [("begin", 2), ("test", 0, 2), ("test", 1, 2), ("own", 0, 1), ("own", 1, 1)]
        self.assertEqual(run(*told, ("kept",), ("back",), ("kept",))[-3:], [[0], [1], [1]])

    def test_greatest_value(self):
        told = [("begin", 1), ("own", 0, 9), ("test", 0, 512)]
        self.assertEqual(last(*told, ("bad",)), [1, 1])
        self.assertEqual(last(*told, ("test", 0, 511), ("bad",)), [1, 0])

    def test_the_least_number_is_told(self):
        """A later machine counts more: of (0, 1) and (6, 0) it is the second that has the lesser number."""
        values = ([0, 0, 0, 0, 0, 1], [1])
        told = [("begin", 2)] + [("own", machine, value) for machine in (0, 1) for value in values[machine]]
        told += [("test", 0, 2), ("test", 1, 3)]
        self.assertEqual(last(*told, ("bad",)), [2, 6, 0])
        # Bad is what has 1 or 2 done of each; an arrow leaves a part of that.
        told = [("begin", 2), ("own", 0, 1), ("own", 0, 1), ("own", 1, 1), ("own", 1, 1), ("test", 0, 2),
                ("test", 1, 2), ("send", 0, 1, 0)]
        self.assertEqual(last(*told, ("bad",)), [4, 1, 1])
        self.assertEqual(last(*told, ("arrow", 0, 2, 1, 1), ("bad",)), [2, 2, 1])
        self.assertEqual(last(*told, ("arrow", 1, 2, 0, 1), ("bad",)), [2, 1, 2])

    def test_the_least_number_with_three_machines(self):
        told = [("begin", 3)] + [("own", machine, 1) for machine in (0, 1, 2)]
        told += [("send", 0, 1, 2), ("send", 1, 2, 2), ("test", 0, 6), ("test", 1, 6), ("test", 2, 3)]
        self.assertEqual(last(*told, ("bad",)), [8, 1, 1, 0])
        self.assertEqual(last(*told, ("arrow", 2, 1, 0, 1), ("bad",)), [4, 1, 1, 1])
        self.assertEqual(last(*told, ("arrow", 2, 1, 0, 2), ("bad",)), [6, 1, 1, 0])
        self.assertEqual(last(*told, ("arrow", 0, 2, 1, 1), ("bad",)), [4, 2, 1, 0])

    def test_only_states_they_may_have_stood_in(self):
        told = [("begin", 2), ("send", 0, 1, 1), ("receive", 1, 0, 1), ("test", 0, 1), ("test", 1, 2)]
        self.assertEqual(run(*told, ("bad",), ("kept",))[-2:], [[0], [1]])


class FullSize(unittest.TestCase):
    TOLD = [("begin", 4)] + [("own", m, value) for m in range(4) for value in VALUES[m]]
    ARROWS = ((0, 2, 1, 1), (1, 3, 2, 2), (2, 4, 3, 3), (3, 1, 0, 3), (2, 1, 0, 2), (3, 6, 1, 6))
    TESTS = (0b1010101010, 0b0011011001, 0b1100110011, 0b0111001110)

    def by_definition(self):
        stood = []
        for counts in itertools.product(range(7), repeat=4):
            if all(counts[p] >= j or counts[m] < i for p, j, m, i in self.ARROWS):
                stood.append(counts)
        values = [[0] + row for row in VALUES]
        found = [counts for counts in stood
                 if all(self.TESTS[m] >> values[m][counts[m]] & 1 for m in range(4))]
        found.sort(key=lambda counts: sum(count * 7 ** m for m, count in enumerate(counts)))
        return stood, found

    def test_all_states(self):
        self.assertEqual(run(*self.TOLD, ("states",), ("bad",), ("kept",))[-3:], [[2401], [2401, 0, 0, 0, 0], [0]])

    def test_six_arrows(self):
        stood, found = self.by_definition()
        calls = [("arrow",) + row for row in self.ARROWS]
        calls += [("test", machine, values) for machine, values in enumerate(self.TESTS)]
        given = run(*self.TOLD, *calls, ("arrows",), ("states",), ("bad",), ("kept",))
        self.assertEqual(given[25:31], [[1], [2], [3], [4], [5], [6]])
        self.assertEqual(given[-4], [6] + [number for row in self.ARROWS for number in row])
        self.assertEqual(given[-3:], [[len(stood)], [len(found), *found[0]], [0]])

    def test_twelve_messages(self):
        """Each machine sends to the one behind it in turn, and all things come one after another but for the turns."""
        told = [("begin", 4)]
        for turn in range(12):
            told += [("send", turn % 4, (turn + 1) % 4, 1), ("receive", (turn + 1) % 4, turn, 2)]
        self.assertEqual(run(*told, ("states",), ("bad",))[-2:], [[25], [25, 0, 0, 0, 0]])
        self.assertEqual(last(*told, ("state",)), [4, 12, 6, 6, 6, 6] + [
            machine for turn in range(12) for machine in (turn % 4, (turn + 1) % 4)])

    def test_four_hundred_calls(self):
        asked = [("bad",), ("states",), ("kept",)] * 125
        given = run(*self.TOLD, *asked)
        self.assertEqual(len(given), 400)
        self.assertEqual(given[25:], [[2401, 0, 0, 0, 0], [2401], [0]] * 125)


if __name__ == "__main__":
    unittest.main()
