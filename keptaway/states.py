"""In which states the machines may have stood, and the calls states, bad, kept."""

from keptaway.story import done, links


def least_state(story, machine, which):
    """The state in which that thing is done, and nothing that needn't be."""
    rows = links(story)
    counts = [0 for other in range(story.machines)]
    counts[machine] = which
    grown = True
    while grown:
        grown = False
        for p, j, m, i in rows:
            if counts[m] >= i and counts[p] < j:
                counts[p] = j
                grown = True
    return counts


def is_before(story, p, j, m, i):
    """Whether machine p's thing j is before machine m's thing i."""
    if p == m and j == i:
        return False
    # What is done in every state with the second thing is just what is done in the least of these.
    return least_state(story, m, i)[p] >= j


def possible_states(story):
    """All states in which they may have stood, by their numbers, the least first."""
    rows = links(story)
    found = [[0 for machine in range(story.machines)]]
    # From the last machine down, as it counts most in a state's number.
    for machine in range(story.machines - 1, -1, -1):
        found = with_machine(rows, found, machine, done(story, machine))
    return found


def with_machine(rows, found, machine, most):
    """The states found, in which only the machines behind this one did things, with what this one may have done."""
    longer = []
    for counts in found:
        for count in fitting_counts(rows, counts, machine, most):
            grown = list(counts)
            grown[machine] = count
            longer.append(grown)
    return longer


def fitting_counts(rows, counts, machine, most):
    """How many things the machine may have done, in order, if those behind it did so many as counts tells."""
    low = 0
    high = most
    for p, j, m, i in rows:
        if p == machine and m > machine and counts[m] >= i:
            low = max(low, j)
        if m == machine and p > machine and counts[p] < j:
            high = min(high, i - 1)
    return list(range(low, high + 1))


def is_bad(story, counts):
    """Whether all machines pass their tests in that state."""
    for machine, count in enumerate(counts):
        value = story.left_with[machine][count]
        if ((story.tests[machine] >> value) & 1) == 0:
            return False
    return True


def bad_states(story):
    """The bad ones of the states in which they may have stood, the least number first."""
    return [counts for counts in possible_states(story) if is_bad(story, counts)]


def states(story):
    return [len(possible_states(story))]


def bad(story):
    found = bad_states(story)
    if len(found) == 0:
        return [0]
    return [len(found)] + found[0]


def kept(story):
    return [1 if len(bad_states(story)) == 0 else 0]
