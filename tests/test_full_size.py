"""Four machines with six things each: very many orders, counted here by another way, state by state."""

import functools
import math
import random
import time
import unittest

from keptaway.table import answers
from tests.helper import GREATEST, last, run, split, written

MOST = math.factorial(24) // math.factorial(6) ** 4
TOLD = [("begin", 4)] + [("own", machine, value) for value in range(1, 7) for machine in range(4)]
# Bad is five or six done of the first machine and three of the second, whatever the others did.
BY_TWO = [("test", 0, 0b1100000), ("test", 1, 0b1000)]
# The first machine passes behind its first five things, the second behind any: few orders go round that.
NARROW = [("test", 0, 0b0111110), ("test", 1, 0b1111110)]
ARROWS = [("arrow", 0, 2, 1, 1), ("arrow", 1, 3, 2, 2), ("arrow", 2, 4, 3, 3), ("arrow", 3, 1, 0, 3),
          ("arrow", 2, 1, 0, 2), ("arrow", 3, 6, 1, 6)]


def counted(arrows, tests, so_far=()):
    """How many orders begin so, go with the arrows and come by no state in which all values are in the tests."""
    def fails(state):
        return not all(tests[machine] >> state[machine] & 1 for machine in range(4))

    @functools.cache
    def onward(state):
        if not fails(state):
            return 0
        if state == (6, 6, 6, 6):
            return 1
        found = 0
        for machine in range(4):
            if state[machine] < 6 and can_come(state, machine):
                found += onward(behind(state, machine))
        return found

    def can_come(state, machine):
        return all(state[p] >= j for p, j, m, i in arrows if (m, i) == (machine, state[machine] + 1))

    def behind(state, machine):
        return tuple(count + (other == machine) for other, count in enumerate(state))

    state = (0, 0, 0, 0)
    for machine in so_far:
        if not fails(state) or not can_come(state, machine):
            return 0
        state = behind(state, machine)
    return onward(state)


def tests_of(calls):
    tests = [1023] * 4
    for name, machine, values in calls:
        tests[machine] = values
    return tests


def ahead(order, arrows, tests):
    """How many orders that miss it come ahead of this one."""
    found = 0
    for place, machine in enumerate(order):
        for lesser in range(machine):
            if order[:place].count(lesser) < 6:
                found += counted(arrows, tests, order[:place] + [lesser])
    return found


class FullSize(unittest.TestCase):
    def test_orders(self):
        self.assertEqual(last(*TOLD, ("orders",)), [MOST, MOST])
        rows = [call[1:] for call in ARROWS]
        for number in range(7):
            expected = counted(rows[:number], [0] * 4)
            self.assertEqual(last(*TOLD, *ARROWS[:number], ("orders",)), [expected, MOST])

    def test_misses(self):
        for tests in (BY_TWO, NARROW, [("test", 3, 0)], [("test", machine, 0b0010100) for machine in range(4)]):
            for number in (0, 1, 2, 6):
                expected = counted([call[1:] for call in ARROWS[:number]], tests_of(tests))
                found = run(*TOLD, *tests, *ARROWS[:number], ("misses",), ("surely",))[-2:]
                self.assertEqual(found, [[expected], [int(expected == 0)]])

    def test_miss_at_its_end(self):
        misses = counted([], tests_of(NARROW))
        self.assertLess(misses, GREATEST)
        found = run(*TOLD, *NARROW, ("miss", misses - 1), ("miss", misses), ("miss", misses + 1), ("miss", GREATEST))
        order = found[-4][1:]
        self.assertEqual(found[-4][0], 24)
        self.assertEqual(ahead(order, [], tests_of(NARROW)), misses - 1)
        self.assertEqual(found[-3:], [[-33]] * 3)

    def test_miss_amid_very_many(self):
        for tests in (BY_TWO, [("test", 3, 0)], NARROW):
            for k in (0, 1, 12345678, 2147483648, GREATEST):
                answer = last(*TOLD, *tests, ("miss", k))
                if counted([], tests_of(tests)) <= k:
                    self.assertEqual(answer, [-33])
                else:
                    self.assertEqual(ahead(answer[1:], [], tests_of(tests)), k)
                    self.assertEqual(counted([], tests_of(tests), answer[1:]), 1)

    def test_singles_and_best_where_none_is_bad(self):
        told = TOLD + [("test", 3, 0)]
        found = last(*told, ("singles",))
        self.assertEqual(found[0], 432)
        rows = [tuple(found[place:place + 4]) for place in range(1, len(found), 4)]
        self.assertEqual(rows, [(p, j, m, i) for p in range(4) for j in range(1, 7) for m in range(4)
                                for i in range(1, 7) if p != m])
        left = [counted([row], [0] * 4) for row in rows if row[0] == 0 and row[2] == 1]
        self.assertEqual(last(*told, ("best",)), [max(left), 0, 1, 1, 6])

    def test_best_with_arrows(self):
        told = TOLD + [("test", machine, 0b0010100) for machine in range(4)] + ARROWS[:2]
        tests = [0b0010100] * 4
        found = last(*told, ("singles",))
        rows = [tuple(found[place:place + 4]) for place in range(1, len(found), 4)]
        put_in = [call[1:] for call in ARROWS[:2]]
        left = [counted(put_in + [row], [0] * 4) for row in rows]
        self.assertGreater(len(rows), 5)
        for row, orders in zip(rows, left):
            self.assertEqual(counted(put_in + [row], tests), orders)
            self.assertEqual(last(*told, ("leaves", *row)), [orders, 1])
        self.assertEqual(last(*told, ("best",)), [max(left), *rows[left.index(max(left))]])

    def test_prevent_with_arrows(self):
        """The first machine's third thing waits for the last machine's first: two arrows make that come late."""
        asked = [("miss", 0), ("prevent",), ("take",), ("kept",), ("idle",), ("misses",)]
        found = run(*TOLD, *BY_TWO, *ARROWS[:4], *asked)
        order, prevent, took, kept, idle, misses = found[-6:]
        self.assertEqual(order, [24, 0, 0] + [1] * 6 + [2] * 6 + [3, 0, 0, 0, 0] + [3] * 5)
        self.assertEqual(prevent, [2, 1, 6, 2, 1, 2, 6, 3, 1])
        self.assertEqual((took, kept), ([6], [1]))
        # Of those put in before just the one from the last machine to the first is needed still.
        self.assertEqual(idle, [3, 0, 1, 2])
        rows = [call[1:] for call in ARROWS[:4]] + [(1, 6, 2, 1), (2, 6, 3, 1)]
        self.assertEqual(misses, [counted(rows, [0] * 4)])

    def test_twelve_messages(self):
        told = [("begin", 4)]
        for turn in range(12):
            told += [("send", turn % 4, (turn + 1) % 4, 1), ("receive", (turn + 1) % 4, turn, 0)]
        # Each sending but the first waits for a receiving, so there's one order; from then till it sends a machine has 0.
        asked = [("orders",), ("misses",), ("prevent",), ("singles",), ("fits",)]
        tests = [("test", 0, 1), ("test", 1, 2), ("test", 2, 2), ("test", 3, 2)]
        self.assertEqual(run(*told, *tests, *asked)[-5:], [[1, 1], [0], [-33], [0], [1]])
        self.assertEqual(run(*told, *tests, ("test", 1, 1), *asked)[-5:], [[1, 1], [1], [0], [0], [1]])


class ManyCalls(unittest.TestCase):
    def ends(self, calls):
        """The calls' answers, given within what some seconds leave for a slow machine."""
        begun = time.monotonic()
        found = run(*calls)
        self.assertLess(time.monotonic() - begun, 60)
        self.assertEqual(len(found), len(calls))
        return found

    def test_four_hundred_of_each(self):
        asked = [(name,) for name in "orders surely misses singles best prevent take idle fits".split()]
        asked += [("miss", 1), ("before", 0, 1, 1, 1), ("leaves", 0, 6, 1, 1), ("holds", 1, 2, 3, 4)]
        told = TOLD + NARROW
        for call in asked:
            found = self.ends(told + [call] * (400 - len(told)))
            self.assertEqual(found[-1], found[-2], call)

    def test_four_hundred_where_none_is_bad(self):
        told = TOLD + [("test", 3, 0)]
        for name in ("singles", "best", "prevent", "idle"):
            found = self.ends(told + [(name,)] * (400 - len(told)))
            self.assertEqual(found[-1], found[-2], name)

    def test_the_longest_list(self):
        """All that a line may hold, mixed, at the full size with six arrows."""
        source = random.Random(5)
        asked = [(name,) for name in "orders surely misses singles best prevent take idle fits bad states".split()]
        asked += [("miss", 1), ("before", 0, 1, 1, 1), ("leaves", 0, 6, 1, 1), ("holds", 1, 2, 3, 4), ("loose", 0)]
        asked += ARROWS
        told = TOLD + BY_TWO + ARROWS
        calls = told + [source.choice(asked) for number in range(400 - len(told))]
        found = self.ends(calls)
        self.assertEqual(split(answers(written(calls))), found)


if __name__ == "__main__":
    unittest.main()
