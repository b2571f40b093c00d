"""A slow model that follows the document's words: all states and all orders are gone through each time."""

import itertools
import math


class Model:
    def __init__(self):
        self.things = None

    def answer(self, name, *given):
        if name == "begin":
            return self.begin(*given)
        if self.things is None:
            return [-11]
        return getattr(self, name)(*given)

    def begin(self, machines):
        if machines not in (1, 2, 3, 4):
            return [-22]
        self.machines = range(machines)
        self.things = []  # of each: machine, which, value, what it is, its message
        self.to = []  # of each message
        self.sets = [set(range(10)) for machine in self.machines]
        self.put_in = []
        return [0]

    def of(self, machine):
        return [thing for thing in self.things if thing[0] == machine]

    def do(self, machine, value, what, message):
        self.things.append((machine, len(self.of(machine)) + 1, value, what, message))
        return self.things[-1][1]

    def own(self, machine, value):
        if machine not in self.machines:
            return [-2]
        if value > 9:
            return [-22]
        if len(self.of(machine)) >= 6:
            return [-28]
        return [self.do(machine, value, "own", None)]

    def send(self, machine, to, value):
        if machine not in self.machines or to not in self.machines:
            return [-2]
        if value > 9 or machine == to:
            return [-22]
        if len(self.of(machine)) >= 6:
            return [-28]
        self.to.append(to)
        return [self.do(machine, value, "send", len(self.to) - 1), len(self.to) - 1]

    def receive(self, machine, message, value):
        if machine not in self.machines or message not in range(len(self.to)):
            return [-2]
        if value > 9 or self.to[message] != machine:
            return [-22]
        if any(thing[3:] == ("receive", message) for thing in self.things):
            return [-17]
        if len(self.of(machine)) >= 6:
            return [-28]
        return [self.do(machine, value, "receive", message)]

    def back(self):
        if self.things and any(self.things[-1][:2] in (row[:2], row[2:]) for row in self.put_in):
            return [-16]
        if not self.things:
            return [-6]
        if self.things.pop()[3] == "send":
            self.to.pop()
        return [len(self.things)]

    def state(self):
        counts = [len(self.of(machine)) for machine in self.machines]
        return [len(counts), len(self.to)] + counts + [thing[0] for thing in self.things]

    def test(self, machine, values):
        if machine not in self.machines:
            return [-2]
        if values > 1023:
            return [-22]
        was = self.sets[machine]
        self.sets[machine] = {value for value in range(10) if values // 2 ** value % 2}
        return [sum(2 ** value for value in was)]

    def pairs(self, put_in):
        """Of each message that is received its two things, of each arrow, too."""
        sent = {thing[4]: thing[:2] for thing in self.things if thing[3] == "send"}
        found = [(sent[thing[4]], thing[:2]) for thing in self.things if thing[3] == "receive"]
        return found + [(row[:2], row[2:]) for row in put_in]

    def stood(self, put_in=None):
        pairs = self.pairs(self.put_in if put_in is None else put_in)
        found = []
        for state in itertools.product(*[range(len(self.of(machine)) + 1) for machine in self.machines]):
            if all(state[p] >= j or state[m] < i for (p, j), (m, i) in pairs):
                found.append(state)
        return found

    def comes_to_bad(self, put_in):
        return any(self.is_bad(state) for state in self.stood(put_in))

    def is_before(self, first, second):
        states = [state for state in self.stood() if state[second[0]] >= second[1]]
        return first != second and all(state[first[0]] >= first[1] for state in states)

    def arrow_refusal(self, row):
        first, second = row[:2], row[2:]
        known = [thing[:2] for thing in self.things]
        if first not in known or second not in known:
            return [-2]
        if first[0] == second[0]:
            return [-22]
        if self.is_before(second, first):
            return [-14]
        if self.is_before(first, second):
            return [-17]
        return None

    def arrow(self, *row):
        refusal = self.arrow_refusal(row)
        if refusal is None and len(self.put_in) >= 6:
            refusal = [-28]
        if refusal is not None:
            return refusal
        self.put_in = self.put_in + [row]
        return [len(self.put_in)]

    def loose(self, arrow):
        if arrow not in range(len(self.put_in)):
            return [-2]
        self.put_in = self.put_in[:arrow] + self.put_in[arrow + 1:]
        return [len(self.put_in)]

    def arrows(self):
        return [len(self.put_in), *itertools.chain(*self.put_in)]

    def states(self):
        return [len(self.stood())]

    def is_bad(self, state):
        for machine in self.machines:
            value = ([0] + [thing[2] for thing in self.of(machine)])[state[machine]]
            if value not in self.sets[machine]:
                return False
        return True

    def bad(self):
        found = [state for state in self.stood() if self.is_bad(state)]
        least = min(found, key=lambda state: sum(7 ** m * count for m, count in enumerate(state)), default=())
        return [len(found), *least]

    def kept(self):
        return [int(self.bad()[0] == 0)]

    def holds(self, *state):
        if len(state) != len(self.machines) or any(state[machine] > len(self.of(machine)) for machine in self.machines):
            return [-22]
        return [int(state in self.stood()), int(self.is_bad(state))]

    def before(self, *row):
        first, second = row[:2], row[2:]
        known = [thing[:2] for thing in self.things]
        if first not in known or second not in known:
            return [-2]
        return [int(self.is_before(first, second)), int(self.is_before(second, first))]

    def can_come(self, state, machine, pairs):
        following = (machine, state[machine] + 1)
        if following[1] > len(self.of(machine)):
            return False
        return all(state[first[0]] >= first[1] for first, second in pairs if second == following)

    def all_orders(self, put_in):
        """Each order, the one ahead of all others first, as a row of machines; all are gone through."""
        pairs = self.pairs(put_in)
        found = []
        begun = [((), (0,) * len(self.machines))]
        while begun:
            row, state = begun.pop()
            if len(row) == len(self.things):
                found.append(row)
            for machine in reversed(self.machines):
                if self.can_come(state, machine, pairs):
                    begun.append((row + (machine,), state[:machine] + (state[machine] + 1,) + state[machine + 1:]))
        return found

    def most_orders(self):
        """How many orders there would be without messages and arrows, before any is gone through."""
        if not self.things:
            return 1
        orders = math.factorial(len(self.things))
        for machine in self.machines:
            orders //= math.factorial(len(self.of(machine)))
        return orders

    def states_of(self, row):
        return [tuple(row[:length].count(machine) for machine in self.machines) for length in range(len(row) + 1)]

    def missing(self):
        return [row for row in self.all_orders(self.put_in) if not any(map(self.is_bad, self.states_of(row)))]

    def orders(self):
        return [len(self.all_orders(self.put_in)), len(self.all_orders([]))]

    def misses(self):
        return [len(self.missing())]

    def surely(self):
        return [int(not self.missing())]

    def miss(self, k):
        found = sorted(self.missing())
        if len(found) <= k:
            return [-33]
        return [len(self.things), *found[k]]

    def fits(self):
        return [int(tuple(thing[0] for thing in self.things) in self.all_orders(self.put_in))]

    def single_arrows(self):
        known = sorted(thing[:2] for thing in self.things)
        found = []
        for first, second in itertools.product(known, known):
            if first[0] != second[0] and not self.is_before(first, second) and not self.is_before(second, first):
                if not self.comes_to_bad(self.put_in + [first + second]):
                    found.append(first + second)
        return found

    def singles(self):
        found = self.single_arrows()
        return [len(found), *itertools.chain(*found)]

    def best(self):
        left = [(len(self.all_orders(self.put_in + [row])), row) for row in self.single_arrows()]
        if not left:
            return [-33]
        most = max(count for count, row in left)
        return [most, *min(row for count, row in left if count == most)]

    def leaves(self, *row):
        refusal = self.arrow_refusal(row)
        if refusal is not None:
            return refusal
        put_in = self.put_in + [row]
        return [len(self.all_orders(put_in)), int(not self.comes_to_bad(put_in))]

    def preventing(self):
        row = min(self.missing())
        states = self.states_of(row)
        things = [(machine, states[place + 1][machine]) for place, machine in enumerate(row)]
        found = [first + second for first, second in zip(things, things[1:])
                 if first[0] != second[0] and not self.is_before(first, second)]
        left_out = []
        for arrow in found:
            others = [other for other in found if other != arrow and other not in left_out]
            if not self.comes_to_bad(self.put_in + others):
                left_out.append(arrow)
        return [arrow for arrow in found if arrow not in left_out]

    def prevent(self):
        if not self.missing():
            return [-33]
        found = self.preventing()
        return [len(found), *itertools.chain(*found)]

    def take(self):
        if not self.missing():
            return [-33]
        found = self.preventing()
        if len(self.put_in) + len(found) > 6:
            return [-28]
        self.put_in = self.put_in + found
        return [len(self.put_in)]

    def idle(self):
        if self.bad()[0] > 0:
            return [-33]
        found = [arrow for arrow in range(len(self.put_in))
                 if not self.comes_to_bad(self.put_in[:arrow] + self.put_in[arrow + 1:])]
        return [len(found), *found]
