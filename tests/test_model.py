"""Lines of mixed calls, held call by call against the slow model of the document's words."""

import itertools
import random
import unittest

from tests.helper import GREATEST, run
from tests.model import Model
from tests.objects import small_object, some_arrows, some_object

TELLING = {"own": 8, "send": 6, "receive": 8, "back": 3, "state": 1, "test": 4, "arrow": 12, "loose": 2, "arrows": 2,
           "states": 3, "bad": 4, "kept": 2}
ASKING = {"own": 3, "send": 2, "receive": 4, "back": 1, "state": 1, "test": 6, "arrow": 8, "loose": 2, "arrows": 1,
          "states": 1, "bad": 1, "kept": 1, "orders": 2, "surely": 1, "misses": 2, "miss": 4, "before": 3,
          "singles": 2, "best": 2, "leaves": 4, "prevent": 3, "take": 3, "idle": 2, "fits": 2, "holds": 3}
# These go through all orders one by one in the model.
SLOW = "orders surely misses miss best leaves prevent take fits".split()


class Line:
    """A line of calls with the model's answers; most are such as may be answered, by what the model has."""

    def __init__(self, seed, weights):
        self.random = random.Random(seed)
        self.names = list(weights)
        self.weights = list(weights.values())
        self.machines = self.random.choice((1, 2, 2, 3, 3, 4, 4))
        self.model = Model()
        self.calls = []
        self.answers = []
        for number in range(self.random.randint(0, 2)):
            self.make(self.any_call())
        self.make(("begin", self.machines))
        # What's told and put in one call at a time, with back between, has seldom both bad states and orders that miss.
        for call in some_object(self.random, self.machines, self.random.choice((0, 4, 8))):
            self.make(call)
        for number in range(self.random.choice((20, 60, 120))):
            self.make(self.any_call())
            if self.random.random() < 0.005:
                self.machines = self.random.randint(1, 4)
                self.make(("begin", self.random.choice((self.machines, 0, 5))))

    def make(self, call):
        if call[0] in SLOW and self.model.most_orders() > 300:
            call = ("back",)
        self.calls.append(call)
        self.answers.append(self.model.answer(*call))

    def near(self, most):
        if self.random.random() < 0.02:
            return self.random.choice((GREATEST, GREATEST - 1, 2 ** 31, 1024, 100))
        if self.random.random() < 0.05:
            return most + 1
        return self.random.randint(0, max(most, 0))

    def things(self):
        if not self.model.things or self.random.random() < 0.1:
            return self.near(self.machines - 1), self.near(6), self.near(self.machines - 1), self.near(6)
        first = self.random.choice(self.model.things)
        others = [thing for thing in self.model.things if thing[0] != first[0] or self.random.random() < 0.1]
        return first[:2] + self.random.choice(others or [first])[:2]

    def message(self):
        messages = len(self.model.to) if self.model.things else 0
        message = self.near(messages - 1)
        if message >= messages or self.random.random() < 0.1:
            return self.near(self.machines - 1), message
        return self.model.to[message], message

    def told_state(self):
        if not self.model.things or self.random.random() < 0.1:
            return [self.near(2) for number in range(self.random.randint(0, 8))]
        return [self.near(len(self.model.of(machine))) for machine in self.model.machines]

    def any_call(self):
        name = self.random.choices(self.names, self.weights)[0]
        machine = self.near(self.machines - 1)
        value = self.near(self.random.choice((2, 2, 9)))
        if name == "own":
            return name, machine, value
        if name == "send":
            to = self.random.choice((self.near(self.machines - 1), (machine + 1) % self.machines))
            return name, machine, to, value
        if name == "receive":
            return name, *self.message(), value
        if name == "test":
            return name, machine, self.random.choice((self.near(1023), self.near(7), 6, 2))
        if name in ("arrow", "leaves", "before"):
            return name, *self.things()
        if name == "loose":
            return name, self.near(4)
        if name == "miss":
            return name, self.near(self.random.choice((0, 3, 20)))
        if name == "holds":
            return name, *self.told_state()
        return (name,)


class AgainstModel(unittest.TestCase):
    REFUSED = {"own": (-2, -22, -28), "send": (-2, -22, -28), "receive": (-2, -22, -17, -28), "back": (-16, -6),
               "test": (-2, -22), "arrow": (-2, -22, -14, -17, -28), "loose": (-2,), "begin": (-22,), "miss": (-33,),
               "before": (-2,), "best": (-33,), "leaves": (-2, -22, -14, -17), "prevent": (-33,), "take": (-33,),
               "idle": (-33,), "holds": (-22,)}

    def held(self, seeds, weights):
        """All calls of so many lines are answered as the model answers them, and each way to answer is among them."""
        seen = set()
        for seed in range(seeds):
            line = Line(seed, weights)
            self.assertEqual(run(*line.calls), line.answers, seed)
            seen.update((call[0], min(answer[0], 0)) for call, answer in zip(line.calls, line.answers))
        for name in [*weights, "begin"]:
            for answer in (0,) + self.REFUSED.get(name, ()):
                self.assertIn((name, answer), seen)

    def test_telling_of_all_sizes(self):
        self.held(600, TELLING)

    def test_all_calls_where_orders_are_few(self):
        self.held(400, ASKING)


def every_question(model):
    """All that may be asked of the object without changing it, but for numbers far out."""
    names = "state arrows states bad kept orders surely misses singles best prevent idle fits"
    calls = [(name,) for name in names.split()]
    missing = len(model.missing())
    calls += [("miss", k) for k in {0, 1, 2, missing // 2, missing - 1, missing, missing + 1} if k >= 0]
    things = [thing[:2] for thing in model.things]
    calls += [(name, *first, *second) for name in ("before", "leaves") for first in things for second in things]
    counts = [range(len(model.of(machine)) + 1) for machine in model.machines]
    return calls + [("holds", *state) for state in itertools.product(*counts)]


class AtManyObjects(unittest.TestCase):
    def asked(self, told):
        """What is answered to every question behind these calls, which is what the model answers."""
        model = Model()
        answers = [model.answer(*call) for call in told]
        questions = every_question(model)
        answers += [model.answer(*call) for call in questions]
        found = run(*told, *questions)
        self.assertEqual(found, answers, told)
        return [(call[0], *answer) for call, answer in zip(questions, found[len(told):])]

    def test_every_question(self):
        seen = set()
        for seed in range(250):
            source = random.Random(seed)
            machines = source.choice((2, 2, 3, 3, 4))
            told = small_object(source, machines) + some_arrows(source, machines, source.choice((0, 0, 1, 3, 8)))
            seen.update(self.asked(told))
            if seed % 3 == 0:
                seen.update(self.asked(told + [("take",)]))
        answered = {}
        for row in seen:
            answered.setdefault(row[0], set()).add(row[1:])
        for name in ("surely", "kept", "fits"):
            self.assertEqual(answered[name], {(0,), (1,)}, name)
        self.assertEqual(answered["holds"], {(0, 0), (0, 1), (1, 0), (1, 1)})
        self.assertEqual(answered["before"], {(0, 0), (0, 1), (1, 0)})
        for name in ("best", "prevent", "idle", "miss"):
            self.assertIn((-33,), answered[name], name)
        for name in ("singles", "prevent"):
            self.assertGreaterEqual({row[0] for row in answered[name]}, {0, 1, 2, 3}, name)
        self.assertGreaterEqual({row[0] for row in answered["idle"]}, {0, 1, 2})
        self.assertEqual({row[1] for row in answered["leaves"] if row[0] >= 0}, {0, 1})


if __name__ == "__main__":
    unittest.main()
