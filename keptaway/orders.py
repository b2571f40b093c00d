"""How many orders there are and which of them miss it: the calls orders, surely, misses, miss, fits."""

from keptaway.refusals import THERE_IS_NONE
from keptaway.states import allows, bad_states, last_state, possible_states, steps
from keptaway.story import links, received


def ways_on(story, numbers):
    """Of each of these states, the least first, in how many ways it goes on by these alone till all is done."""
    ways = {}
    last = last_state(story)
    for number in reversed(numbers):
        if number == last:
            ways[number] = 1
        else:
            # Of a state they may have stood in, a machine's next can come just if they may have stood behind it, too.
            ways[number] = sum([ways.get(number + step, 0) for step in steps(story)])
    return ways


def count_orders(story, rows):
    """How many orders there are that go with the rows."""
    return ways_on(story, possible_states(story, rows))[0]


def missing_ways(story):
    """Of each state that isn't bad in how many ways it goes on by such states till all is done."""
    rows = links(story)
    spoilt = {}
    for number in bad_states(story, rows):
        spoilt[number] = True
    return ways_on(story, [number for number in possible_states(story, rows) if number not in spoilt])


def count_missing(ways):
    # The first state is none of them if it's bad.
    return ways.get(0, 0)


def order_at(story, ways, k):
    """The order ahead of which there are k, of those that the ways count; there are more than k."""
    row = []
    number = 0
    skipped = 0
    while len(row) < len(story.told):
        machine = 0
        step = steps(story)[0]
        while skipped + ways.get(number + step, 0) <= k:
            skipped += ways.get(number + step, 0)
            machine += 1
            step = steps(story)[machine]
        row.append(machine)
        number += step
    return row


def orders(story):
    return [count_orders(story, links(story)), count_orders(story, received(story))]


def misses(story):
    return [count_missing(missing_ways(story))]


def surely(story):
    return [1 if count_missing(missing_ways(story)) == 0 else 0]


def miss(story, k):
    ways = missing_ways(story)
    if count_missing(ways) <= k:
        return [THERE_IS_NONE]
    return [len(story.told)] + order_at(story, ways, k)


def fits(story):
    rows = links(story)
    counts = [0 for machine in range(story.machines)]
    for machine in story.told:
        counts[machine] += 1
        if not allows(rows, counts):
            return [0]
    return [1]
