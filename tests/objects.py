"""Calls that make objects with both bad states and orders that miss them more often than calls drawn one by one."""

import math


def some_object(source, machines, things):
    """At most so many things (a receiving may be refused), with values of 0 and 1; tests that one of these passes."""
    calls = []
    to = []
    values = [0] * machines
    for number in range(things):
        machine = source.randrange(machines)
        kind = source.choice(("own", "own", "send", "receive"))
        message = source.randrange(len(to)) if to and kind == "receive" else None
        if message is not None:
            machine = to[message]
        # A test that's passed and failed by turns makes more than one arrow needed.
        values[machine] = source.choice((1 - values[machine], 1 - values[machine], 0, 1))
        if message is not None:
            calls.append(("receive", machine, message, values[machine]))
        elif kind == "send" and machines > 1:
            to.append((machine + source.randrange(1, machines)) % machines)
            calls.append(("send", machine, to[-1], values[machine]))
        else:
            calls.append(("own", machine, values[machine]))
    return calls + [("test", machine, source.choice((2, 2, 2, 1, 1, 3))) for machine in range(machines)]


def small_object(source, machines):
    """A begun object of which all orders can be gone through one by one: at most 500."""
    while True:
        told = some_object(source, machines, source.randint(0, 11))
        orders = math.factorial(len(told) - machines)
        for machine in range(machines):
            orders //= math.factorial(sum(call[1] == machine for call in told if call[0] != "test"))
        if orders <= 500:
            return [("begin", machines)] + told


def some_arrows(source, machines, number):
    """So many arrows, of which some may be refused."""
    calls = []
    for arrow in range(number):
        p = source.randrange(machines)
        m = (p + source.randrange(1, machines)) % machines
        calls.append(("arrow", p, source.randint(1, 4), m, source.randint(1, 4)))
    return calls
