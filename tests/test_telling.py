"""Point 1: begin, own, send, receive, back, state."""

import unittest

from tests.helper import GREATEST, NAMES, assert_refused, last, looks, run


def filled(machine):
    return [("own", machine, 1)] * 6


class Begin(unittest.TestCase):
    def test_one_to_four(self):
        for machines in (1, 2, 3, 4):
            self.assertEqual(run(("begin", machines), ("state",)), [[0], [machines, 0] + [0] * machines])

    def test_nothing_is_done_and_all_is_bad(self):
        found = run(("begin", 3), ("arrows",), ("states",), ("bad",), ("kept",), ("test", 2, 0))
        self.assertEqual(found, [[0], [0], [1], [1, 0, 0, 0], [0], [1023]])

    def test_not_one_to_four(self):
        for machines in (0, 5, 6, GREATEST):
            self.assertEqual(run(("begin", machines), ("state",)), [[-22], [-11]])

    def test_refused_when_begun_changes_nothing(self):
        told = [("begin", 2), ("own", 0, 3), ("own", 1, 4), ("test", 1, 16), ("arrow", 0, 1, 1, 1)]
        for machines in (0, 5, GREATEST):
            assert_refused(self, told, ("begin", machines), -22)

    def test_second_begin_forgets_all(self):
        told = [("begin", 3), ("send", 0, 1, 3), ("receive", 1, 0, 4), ("own", 2, 5), ("test", 1, 16),
                ("arrow", 1, 1, 2, 1)]
        for machines in (1, 2, 3, 4):
            again = [("begin", machines)] + looks(machines) + [("receive", 0, 0, 0), ("back",)]
            self.assertEqual(run(*told, *again)[len(told):], run(*again))

    def test_second_begin_numbers_from_the_start(self):
        found = run(("begin", 2), ("send", 0, 1, 3), ("begin", 2), ("own", 0, 1), ("send", 0, 1, 1))
        self.assertEqual(found[-2:], [[1], [2, 0]])


class NotBegun(unittest.TestCase):
    COUNTS = {"own": 2, "send": 3, "receive": 3, "test": 2, "arrow": 4, "loose": 1, "miss": 1, "before": 4, "leaves": 4}

    def test_all_others_answer_not_begun(self):
        for name in NAMES[1:]:
            for number in (0, 1, GREATEST):
                call = (name,) + (number,) * self.COUNTS.get(name, 0)
                self.assertEqual(run(call), [[-11]])
                self.assertEqual(run(("begin", 0), call, call), [[-22], [-11], [-11]])
                self.assertEqual(run(call, ("begin", 1), ("state",)), [[-11], [0], [1, 0, 0]])

    def test_holds_with_each_count_of_numbers(self):
        for count in range(9):
            self.assertEqual(run(("holds",) + (0,) * count, ("begin", 5)), [[-11], [-22]])


class Own(unittest.TestCase):
    def test_tells_which_of_its_things(self):
        found = run(("begin", 2), ("own", 0, 0), ("own", 1, 9), ("own", 0, 5), ("own", 0, 5), ("state",))
        self.assertEqual(found, [[0], [1], [1], [2], [3], [2, 0, 3, 1, 0, 1, 0, 0]])

    def test_six_and_no_more(self):
        found = run(("begin", 1), *filled(0))
        self.assertEqual(found[1:], [[1], [2], [3], [4], [5], [6]])
        assert_refused(self, [("begin", 2)] + filled(0), ("own", 0, 1), -28)
        self.assertEqual(last(("begin", 2), *filled(0), ("own", 1, 1)), [1])

    def test_refusals(self):
        for machine in (2, 3, 4, GREATEST):
            for value in (0, 9, 10, GREATEST):
                assert_refused(self, [("begin", 2)], ("own", machine, value), -2)
        for value in (10, 11, 1023, GREATEST):
            assert_refused(self, [("begin", 2)], ("own", 1, value), -22)
            assert_refused(self, [("begin", 2)] + filled(1), ("own", 1, value), -22)

    def test_value_is_what_it_is_left_with(self):
        for value in range(10):
            told = [("begin", 1), ("own", 0, value)]
            for asked in range(10):
                bad = int(asked == 0) + int(asked == value)
                self.assertEqual(last(*told, ("test", 0, 1 << asked), ("bad",))[0], bad)


class Send(unittest.TestCase):
    def test_tells_thing_and_message(self):
        found = run(("begin", 3), ("send", 0, 1, 0), ("own", 1, 2), ("send", 1, 2, 9), ("send", 0, 2, 4), ("state",))
        self.assertEqual(found[1:], [[1, 0], [1], [2, 1], [2, 2], [3, 3, 2, 2, 0, 0, 1, 1, 0]])

    def test_a_sending_binds_nothing_till_it_is_received(self):
        self.assertEqual(last(("begin", 2), ("send", 0, 1, 0), ("own", 1, 0), ("states",)), [4])

    def test_leaves_a_value(self):
        found = run(("begin", 2), ("send", 0, 1, 7), ("test", 0, 128), ("bad",), ("test", 0, 256), ("kept",))
        self.assertEqual(found[3:], [[1, 1, 0], [128], [1]])

    def test_refusals(self):
        told = [("begin", 2)]
        for machine, to in ((2, 0), (0, 2), (2, 2), (GREATEST, 0), (0, GREATEST), (GREATEST, GREATEST)):
            for value in (1, 10, GREATEST):
                assert_refused(self, told + filled(0), ("send", machine, to, value), -2)
        for machine, to, value in ((0, 0, 1), (1, 1, 9), (0, 1, 10), (0, 1, GREATEST), (0, 0, 10)):
            assert_refused(self, told, ("send", machine, to, value), -22)
            assert_refused(self, told + filled(machine), ("send", machine, to, value), -22)
        assert_refused(self, told + filled(0), ("send", 0, 1, 1), -28)

    def test_the_receiver_may_be_full(self):
        self.assertEqual(last(("begin", 2), *filled(1), ("send", 0, 1, 1)), [1, 0])

    def test_refused_sending_takes_no_number(self):
        found = run(("begin", 2), ("send", 0, 0, 1), ("send", 0, 1, 10), ("send", 0, 1, 1))
        self.assertEqual(found[1:], [[-22], [-22], [1, 0]])


class Receive(unittest.TestCase):
    def test_binds_the_sending(self):
        found = run(("begin", 2), ("own", 1, 1), ("send", 0, 1, 2), ("receive", 1, 0, 3), ("state",), ("states",))
        self.assertEqual(found[3:], [[2], [2, 1, 1, 2, 1, 0, 1], [5]])

    def test_in_another_order_than_sent(self):
        found = run(("begin", 2), ("send", 0, 1, 1), ("send", 0, 1, 2), ("receive", 1, 1, 3), ("states",),
                    ("receive", 1, 0, 3), ("states",))
        self.assertEqual(found[3:], [[1], [4], [2], [5]])

    def test_leaves_a_value(self):
        told = [("begin", 2), ("send", 0, 1, 7), ("receive", 1, 0, 6)]
        self.assertEqual(last(*told, ("test", 1, 64), ("bad",)), [1, 1, 1])

    def test_none_such(self):
        told = [("begin", 2), ("send", 0, 1, 7)]
        for machine, message in ((2, 0), (1, 1), (2, 1), (GREATEST, 0), (1, GREATEST)):
            for value in (0, 10, GREATEST):
                assert_refused(self, told, ("receive", machine, message, value), -2)
        assert_refused(self, [("begin", 2)], ("receive", 1, 0, 0), -2)

    def test_not_as_told(self):
        told = [("begin", 3), ("send", 0, 1, 7)]
        for machine, value in ((0, 1), (2, 1), (1, 10), (1, GREATEST), (2, 10)):
            assert_refused(self, told, ("receive", machine, 0, value), -22)
            assert_refused(self, told + [("receive", 1, 0, 1)], ("receive", machine, 0, value), -22)
            assert_refused(self, told + filled(machine)[machine == 0:], ("receive", machine, 0, value), -22)

    def test_received_already(self):
        told = [("begin", 2), ("send", 0, 1, 7), ("receive", 1, 0, 1)]
        assert_refused(self, told, ("receive", 1, 0, 1), -17)
        assert_refused(self, told + filled(1)[1:], ("receive", 1, 0, 1), -17)

    def test_too_many(self):
        told = [("begin", 2), ("send", 0, 1, 7)] + filled(1)
        assert_refused(self, told, ("receive", 1, 0, 1), -28)
        self.assertEqual(last(*told, ("back",), ("receive", 1, 0, 1)), [6])


class Back(unittest.TestCase):
    def test_nothing_done(self):
        assert_refused(self, [("begin", 1)], ("back",), -6)
        self.assertEqual(run(("begin", 2), ("own", 1, 3), ("back",), ("back",)), [[0], [1], [0], [-6]])

    def test_tells_how_many_things_are_left(self):
        found = run(("begin", 2), ("own", 0, 1), ("own", 1, 2), ("own", 0, 3), ("back",), ("state",), ("back",),
                    ("state",), ("own", 1, 4), ("state",))
        self.assertEqual(found[4:], [[2], [2, 0, 1, 1, 0, 1], [1], [2, 0, 1, 0, 0], [1], [2, 0, 1, 1, 0, 1]])

    def test_value_is_gone(self):
        told = [("begin", 1), ("test", 0, 8), ("own", 0, 3), ("own", 0, 3)]
        found = run(*told, ("bad",), ("back",), ("bad",), ("back",), ("bad",), ("own", 0, 2), ("bad",))
        self.assertEqual(found[4:], [[2, 1], [1], [1, 1], [0], [0], [1], [0]])

    def test_message_is_not_sent_any_more(self):
        found = run(("begin", 3), ("send", 0, 1, 1), ("send", 0, 1, 1), ("back",), ("state",), ("receive", 1, 1, 1),
                    ("send", 0, 2, 1), ("receive", 1, 1, 1), ("receive", 2, 1, 1), ("receive", 1, 0, 1))
        self.assertEqual(found[3:], [[1], [3, 1, 1, 0, 0, 0], [-2], [2, 1], [-22], [1], [1]])

    def test_message_is_not_received_any_more(self):
        found = run(("begin", 2), ("send", 0, 1, 1), ("own", 1, 1), ("receive", 1, 0, 1), ("states",), ("back",),
                    ("states",), ("own", 1, 1), ("states",), ("receive", 1, 0, 1), ("receive", 1, 0, 1), ("states",))
        self.assertEqual(found[3:], [[2], [5], [2], [4], [2], [6], [3], [-17], [7]])

    def test_only_the_last_message_is_touched(self):
        found = run(("begin", 3), ("send", 0, 1, 1), ("send", 2, 1, 1), ("receive", 1, 1, 1), ("receive", 1, 0, 1),
                    ("back",), ("receive", 1, 1, 1), ("receive", 1, 0, 1))
        self.assertEqual(found[5:], [[3], [-17], [2]])

    def test_an_arrow_hangs_on_it(self):
        told = [("begin", 2), ("own", 0, 1), ("own", 1, 1)]
        assert_refused(self, told + [("arrow", 0, 1, 1, 1)], ("back",), -16)
        assert_refused(self, told + [("arrow", 1, 1, 0, 1)], ("back",), -16)
        found = run(*told, ("arrow", 1, 1, 0, 1), ("back",), ("loose", 0), ("back",), ("back",))
        self.assertEqual(found[3:], [[1], [-16], [0], [1], [0]])

    def test_an_arrow_hangs_on_another(self):
        told = [("begin", 3), ("own", 0, 1), ("own", 1, 1), ("arrow", 0, 1, 1, 1)]
        for machine in (0, 1, 2):
            self.assertEqual(last(*told, ("own", machine, 1), ("back",)), [2])

    def test_any_of_the_arrows(self):
        told = [("begin", 2), ("own", 0, 1), ("own", 1, 1), ("own", 0, 1), ("own", 1, 1)]
        assert_refused(self, told + [("arrow", 0, 1, 1, 1), ("arrow", 0, 2, 1, 2)], ("back",), -16)
        assert_refused(self, told + [("arrow", 0, 2, 1, 2), ("arrow", 0, 1, 1, 1)], ("back",), -16)


if __name__ == "__main__":
    unittest.main()
