"""The calls against a slow model that follows the document's words: all states are gone through each time."""

import itertools
import random
import unittest

from tests.helper import GREATEST, run


class Model:
    def __init__(self):
        self.things = None

    def answer(self, name, *given):
        if name == "begin":
            return self.begin(*given)
        if self.things is None:
            return [-11]
        return getattr(self, name)(*given)

    def begin(self, machines):
        if machines not in (1, 2, 3, 4):
            return [-22]
        self.machines = range(machines)
        self.things = []  # of each: machine, which, value, what it is, its message
        self.to = []  # of each message
        self.sets = [set(range(10)) for machine in self.machines]
        self.put_in = []
        return [0]

    def of(self, machine):
        return [thing for thing in self.things if thing[0] == machine]

    def do(self, machine, value, what, message):
        self.things.append((machine, len(self.of(machine)) + 1, value, what, message))
        return self.things[-1][1]

    def own(self, machine, value):
        if machine not in self.machines:
            return [-2]
        if value > 9:
            return [-22]
        if len(self.of(machine)) >= 6:
            return [-28]
        return [self.do(machine, value, "own", None)]

    def send(self, machine, to, value):
        if machine not in self.machines or to not in self.machines:
            return [-2]
        if value > 9 or machine == to:
            return [-22]
        if len(self.of(machine)) >= 6:
            return [-28]
        self.to.append(to)
        return [self.do(machine, value, "send", len(self.to) - 1), len(self.to) - 1]

    def receive(self, machine, message, value):
        if machine not in self.machines or message not in range(len(self.to)):
            return [-2]
        if value > 9 or self.to[message] != machine:
            return [-22]
        if any(thing[3:] == ("receive", message) for thing in self.things):
            return [-17]
        if len(self.of(machine)) >= 6:
            return [-28]
        return [self.do(machine, value, "receive", message)]

    def back(self):
        if self.things and any(self.things[-1][:2] in (row[:2], row[2:]) for row in self.put_in):
            return [-16]
        if not self.things:
            return [-6]
        if self.things.pop()[3] == "send":
            self.to.pop()
        return [len(self.things)]

    def state(self):
        counts = [len(self.of(machine)) for machine in self.machines]
        return [len(counts), len(self.to)] + counts + [thing[0] for thing in self.things]

    def test(self, machine, values):
        if machine not in self.machines:
            return [-2]
        if values > 1023:
            return [-22]
        was = self.sets[machine]
        self.sets[machine] = {value for value in range(10) if values // 2 ** value % 2}
        return [sum(2 ** value for value in was)]

    def pairs(self):
        """Of each message that is received its two things, of each arrow, too."""
        sent = {thing[4]: thing[:2] for thing in self.things if thing[3] == "send"}
        found = [(sent[thing[4]], thing[:2]) for thing in self.things if thing[3] == "receive"]
        return found + [(row[:2], row[2:]) for row in self.put_in]

    def stood(self):
        pairs = self.pairs()
        found = []
        for state in itertools.product(*[range(len(self.of(machine)) + 1) for machine in self.machines]):
            if all(state[p] >= j or state[m] < i for (p, j), (m, i) in pairs):
                found.append(state)
        return found

    def is_before(self, first, second):
        states = [state for state in self.stood() if state[second[0]] >= second[1]]
        return first != second and all(state[first[0]] >= first[1] for state in states)

    def arrow(self, *row):
        first, second = row[:2], row[2:]
        known = [thing[:2] for thing in self.things]
        if first not in known or second not in known:
            return [-2]
        if first[0] == second[0]:
            return [-22]
        if self.is_before(second, first):
            return [-14]
        if self.is_before(first, second):
            return [-17]
        if len(self.put_in) >= 6:
            return [-28]
        self.put_in.append(row)
        return [len(self.put_in)]

    def loose(self, arrow):
        if arrow not in range(len(self.put_in)):
            return [-2]
        self.put_in = self.put_in[:arrow] + self.put_in[arrow + 1:]
        return [len(self.put_in)]

    def arrows(self):
        return [len(self.put_in), *itertools.chain(*self.put_in)]

    def states(self):
        return [len(self.stood())]

    def is_bad(self, state):
        for machine in self.machines:
            value = ([0] + [thing[2] for thing in self.of(machine)])[state[machine]]
            if value not in self.sets[machine]:
                return False
        return True

    def bad(self):
        found = [state for state in self.stood() if self.is_bad(state)]
        least = min(found, key=lambda state: sum(7 ** m * count for m, count in enumerate(state)), default=())
        return [len(found), *least]

    def kept(self):
        return [int(self.bad()[0] == 0)]


NAMES = ("own send receive back state test arrow loose arrows states bad kept".split())
WEIGHTS = (8, 6, 8, 3, 1, 4, 12, 2, 2, 3, 4, 2)


class Line:
    """A line of calls with the model's answers; most are such as may be answered, by what the model has."""

    def __init__(self, seed):
        self.random = random.Random(seed)
        self.machines = self.random.choice((1, 2, 2, 3, 3, 4, 4))
        self.model = Model()
        self.calls = []
        self.answers = []
        for number in range(self.random.randint(0, 2)):
            self.make(self.any_call())
        self.make(("begin", self.machines))
        for number in range(self.random.choice((20, 60, 120))):
            self.make(self.any_call())
            if self.random.random() < 0.005:
                self.machines = self.random.randint(1, 4)
                self.make(("begin", self.random.choice((self.machines, 0, 5))))

    def make(self, call):
        self.calls.append(call)
        self.answers.append(self.model.answer(*call))

    def near(self, most):
        if self.random.random() < 0.02:
            return self.random.choice((GREATEST, GREATEST - 1, 2 ** 31, 1024, 100))
        if self.random.random() < 0.05:
            return most + 1
        return self.random.randint(0, max(most, 0))

    def thing(self):
        if not self.model.things or self.random.random() < 0.1:
            return self.near(self.machines - 1), self.near(6)
        return self.random.choice(self.model.things)[:2]

    def message(self):
        messages = len(self.model.to) if self.model.things else 0
        message = self.near(messages - 1)
        if message >= messages or self.random.random() < 0.1:
            return self.near(self.machines - 1), message
        return self.model.to[message], message

    def any_call(self):
        name = self.random.choices(NAMES, WEIGHTS)[0]
        machine = self.near(self.machines - 1)
        value = self.near(self.random.choice((2, 9)))
        if name == "own":
            return name, machine, value
        if name == "send":
            return name, machine, self.near(self.machines - 1), value
        if name == "receive":
            return name, *self.message(), value
        if name == "test":
            return name, machine, self.random.choice((self.near(1023), self.near(7), 6, 2))
        if name == "arrow":
            return name, *self.thing(), *self.thing()
        if name == "loose":
            return name, self.near(4)
        return (name,)


class AgainstModel(unittest.TestCase):
    def test_many_lines(self):
        seen = set()
        for seed in range(1000):
            line = Line(seed)
            self.assertEqual(run(*line.calls), line.answers, seed)
            seen.update((call[0], min(answer[0], 0)) for call, answer in zip(line.calls, line.answers))
        refused = {"own": (-2, -22, -28), "send": (-2, -22, -28), "receive": (-2, -22, -17, -28), "back": (-16, -6),
                   "test": (-2, -22), "arrow": (-2, -22, -14, -17, -28), "loose": (-2,), "begin": (-22,)}
        for name in NAMES + ["begin"]:
            for answer in (0,) + refused.get(name, ()):
                self.assertIn((name, answer), seen)


if __name__ == "__main__":
    unittest.main()
