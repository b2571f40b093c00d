"""What one arrow more does: the calls singles, best, leaves."""

from keptaway.arrows import arrow_refusal, tell_arrows
from keptaway.orders import count_orders, ways_on
from keptaway.refusals import THERE_IS_NONE
from keptaway.states import bad_states, count_of, counts_of, is_kept, least_state, possible_states, steps
from keptaway.story import MOST_THINGS, done, links


def all_things(story):
    """All things as pairs of machine and which, by machines, then by which."""
    found = []
    for machine in range(story.machines):
        for which in range(1, done(story, machine) + 1):
            found.append((machine, which))
    return found


def single_arrows(story):
    """The arrows that could be put in and keep it away, by the first thing, then by the second."""
    found = []
    seen = counts_when_bad(story)
    needed = needed_things(story)
    for p, j in all_things(story):
        for m, i in all_things(story):
            could_be_put_in = p != m and needed[(m, i)][p] < j and needed[(p, j)][m] < i
            if could_be_put_in and shuts_out_bad(seen, p, j, m, i):
                found.append((p, j, m, i))
    return found


def counts_when_bad(story):
    """Of each machine the counts of things that it has done in bad states."""
    numbers = bad_states(story, links(story))
    seen = []
    for machine in range(story.machines):
        seen.append(sorted(set([count_of(number, machine) for number in numbers])))
    return seen


def shuts_out_bad(seen, p, j, m, i):
    """Whether an arrow shuts out all bad states, by the counts that each machine has in these."""
    # It shuts out just the states in which its second thing is done and its first isn't.
    return all([count >= i for count in seen[m]]) and all([count < j for count in seen[p]])


def needed_things(story):
    """Of each thing how many things each machine has to have done where it's done."""
    rows = links(story)
    needed = {}
    for machine, which in all_things(story):
        needed[(machine, which)] = least_state(story, rows, machine, which)
    return needed


def ways_here(story, numbers):
    """Of each of these states, the least first, in how many ways it's come to from the first one."""
    ways = {0: 1}
    for number in numbers:
        if number > 0:
            ways[number] = sum([ways.get(number - step, 0) for step in steps(story)])
    return ways


def tally_turns(story):
    """By (m, i) a list for each machine p: in how many orders it has done so many things when m's thing i comes."""
    tally = {}
    for thing in all_things(story):
        tally[thing] = [no_turns() for machine in range(story.machines)]
    numbers = possible_states(story, links(story))
    here = ways_here(story, numbers)
    on = ways_on(story, numbers)
    for number in numbers:
        counts = counts_of(story, number)
        for m, step in enumerate(steps(story)):
            if number + step in on:
                add_turn(tally[(m, counts[m] + 1)], counts, here[number] * on[number + step])
    return tally


def no_turns():
    return [0 for count in range(MOST_THINGS + 1)]


def add_turn(rows, counts, ways):
    for machine, count in enumerate(counts):
        rows[machine][count] += ways


def orders_with(tally, p, j, m, i):
    """In how many orders machine p's thing j is done when machine m's thing i comes."""
    return sum(tally[(m, i)][p][j:])


def singles(story):
    return tell_arrows(single_arrows(story))


def best(story):
    found = single_arrows(story)
    if len(found) == 0:
        return [THERE_IS_NONE]
    # All are counted out of one walk: there may be hundreds of them.
    tally = tally_turns(story)
    chosen = found[0]
    left = 0
    for p, j, m, i in found:
        ways = orders_with(tally, p, j, m, i)
        if ways > left:
            chosen = (p, j, m, i)
            left = ways
    return [left] + list(chosen)


def leaves(story, p, j, m, i):
    refusal = arrow_refusal(story, p, j, m, i)
    if refusal < 0:
        return [refusal]
    rows = links(story) + [(p, j, m, i)]
    return [count_orders(story, rows), 1 if is_kept(story, rows) else 0]
