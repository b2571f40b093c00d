"""What holds, a to f: of objects of all sizes, by what the program itself answers to calls behind one another."""

import random
import unittest

from tests.helper import NAMES, assert_refused, last, looks, run
from tests.objects import small_object, some_arrows, some_object


def objects(number, most):
    """Objects with up to so many things, some with arrows."""
    for seed in range(number):
        source = random.Random(seed)
        machines = source.choice((1, 2, 2, 3, 3, 4))
        told = [("begin", machines)] + some_object(source, machines, source.randint(0, most))
        if machines > 1:
            told += some_arrows(source, machines, source.choice((0, 0, 2, 6)))
        yield told


def all_things(told):
    counts = last(*told, ("state",))[2:2 + told[0][1]]
    return [(machine, which) for machine, count in enumerate(counts) for which in range(1, count + 1)]


def fours(numbers):
    return [tuple(numbers[place:place + 4]) for place in range(0, len(numbers), 4)]


def listed_orders(told):
    """All orders, as those that miss it where no machine passes."""
    count = last(*told, ("orders",))[0]
    rows = run(*told, ("test", 0, 0), *[("miss", k) for k in range(count + 1)])[-count - 1:]
    assert rows.pop() == [-33]
    return [row[1:] for row in rows]


class WhatHolds(unittest.TestCase):
    def test_a_kept_away_just_if_some_order_misses_it(self):
        taken = 0
        for told in objects(400, 24):
            surely, took, kept, orders = run(*told, ("surely",), ("take",), ("kept",), ("orders",))[-4:]
            if surely == [1]:
                self.assertEqual((took, kept), ([-33], [0]), told)
            elif took != [-28]:
                self.assertEqual(kept, [1], told)
                self.assertGreaterEqual(orders[0], 1, told)
                taken += took != last(*told, ("arrows",))[:1]
        self.assertGreater(taken, 50)

    def test_a_no_arrows_do_where_none_misses_it(self):
        tried = 0
        for seed, told in enumerate(objects(300, 14)):
            if told[0][1] > 1 and last(*told, ("surely",)) == [1]:
                source = random.Random(seed)
                arrows = some_arrows(source, told[0][1], 12)
                for call, answer in zip(arrows, run(*told, *arrows)[len(told):]):
                    tried += answer[0] > 0
                self.assertEqual(run(*told, *arrows, ("kept",), ("surely",))[-2:], [[0], [1]], told)
        self.assertGreater(tried, 50)

    def test_b_none_of_those_is_there_for_nothing(self):
        loosed = 0
        for told in objects(400, 24):
            had = last(*told, ("arrows",))[0]
            took = last(*told, ("take",))[0]
            if took > had:
                self.assertEqual(last(*told, ("prevent",))[0], took - had)
                for arrow in range(had, took):
                    found = run(*told, ("take",), ("loose", arrow), ("bad",), ("kept",))[-2:]
                    self.assertGreater(found[0][0], 0, told)
                    self.assertEqual(found[1], [0], told)
                    loosed += 1
        self.assertGreater(loosed, 60)

    def test_b_just_those_are_idle_that_can_be_loosed(self):
        for told in objects(300, 16):
            arrows = last(*told, ("take",), ("arrows",))[0]
            idle = last(*told, ("take",), ("idle",))
            loosed = [arrow for arrow in range(arrows) if last(*told, ("take",), ("loose", arrow), ("kept",)) == [1]]
            if idle != [-33]:
                self.assertEqual(idle, [len(loosed)] + loosed, told)

    def test_c_just_the_single_ones_do_it_alone(self):
        for told in objects(60, 12):
            # Few enough that arrow itself never answers that there are too many.
            arrows = [call for call in told if call[0] == "arrow"]
            told = [call for call in told if call not in arrows[2:]]
            things = all_things(told)
            alone = []
            most = []
            for row in [first + second for first in things for second in things]:
                put, kept, orders = run(*told, ("arrow", *row), ("kept",), ("orders",))[-3:]
                if put[0] > 0 and kept == [1]:
                    alone.append(row)
                    most.append(orders[0])
                leaves = last(*told, ("leaves", *row))
                self.assertEqual(leaves, [orders[0], kept[0]] if put[0] > 0 else put, (told, row))
            singles = last(*told, ("singles",))
            self.assertEqual(singles[0], len(alone))
            self.assertEqual(fours(singles[1:]), alone, told)
            best = last(*told, ("best",))
            self.assertEqual(best, [max(most), *alone[most.index(max(most))]] if alone else [-33], told)

    def test_d_those_orders_are_left_that_go_with_all_arrows(self):
        fewer = 0
        for seed in range(120):
            source = random.Random(seed)
            machines = source.choice((2, 2, 3, 4))
            told = small_object(source, machines)
            free = listed_orders(told)
            told += some_arrows(source, machines, 5)
            left = []
            for order in free:
                seen = [(machine, order[:place + 1].count(machine)) for place, machine in enumerate(order)]
                if all(seen.index(row[:2]) < seen.index(row[2:]) for row in fours(last(*told, ("arrows",))[1:])):
                    left.append(order)
            self.assertEqual(listed_orders(told), left, told)
            self.assertEqual(last(*told, ("orders",)), [len(left), len(free)])
            self.assertGreaterEqual(len(left), 1)
            self.assertEqual(last(*told, ("fits",)), [int(last(*told, ("state",))[2 + machines:] in left)])
            self.assertEqual(free, sorted(free))
            fewer += len(left) < len(free)
        self.assertGreater(fewer, 40)

    def test_e_kept_just_if_no_order_comes_by_a_bad_state(self):
        seen = set()
        for told in objects(400, 24):
            kept, orders, misses = run(*told, ("kept",), ("orders",), ("misses",))[-3:]
            self.assertEqual(kept, [int(orders[0] == misses[0])], told)
            self.assertLessEqual(orders[0], orders[1])
            seen.add((kept[0], misses[0] > 0))
        self.assertEqual(seen, {(0, False), (0, True), (1, True)})

    def test_f_what_is_refused_changes_nothing(self):
        far = (4294967295, 7, 4, 0)
        counts = {"begin": 1, "own": 2, "send": 3, "receive": 3, "test": 2, "arrow": 4, "loose": 1, "miss": 1,
                  "before": 4, "leaves": 4, "holds": 3}
        refused = set()
        for told in objects(40, 14):
            for name in NAMES:
                for number in far:
                    call = (name,) + (number,) * counts.get(name, 0)
                    answer = last(*told, call)
                    if answer[0] < 0:
                        assert_refused(self, told, call, answer[0])
                        refused.add((name, answer[0]))
        for row in (("best", -33), ("prevent", -33), ("take", -33), ("idle", -33), ("miss", -33), ("holds", -22),
                    ("before", -2), ("leaves", -2)):
            self.assertIn(row, refused)

    def test_asking_changes_nothing(self):
        asked = [(name,) for name in "orders surely misses singles best prevent idle fits".split()]
        asked += [("miss", 0), ("miss", 1), ("before", 0, 1, 1, 1), ("leaves", 0, 1, 1, 1), ("leaves", 1, 1, 0, 1)]
        asked += [("holds",) + (1,) * count for count in range(5)]
        for told in objects(60, 14):
            looked = looks(told[0][1])
            self.assertEqual(run(*told, *asked, *looked)[-len(looked):], run(*told, *looked)[-len(looked):], told)
            found = run(*told, *asked, *asked)[-2 * len(asked):]
            self.assertEqual(found[:len(asked)], found[len(asked):], told)


if __name__ == "__main__":
    unittest.main()
