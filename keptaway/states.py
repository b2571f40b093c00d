"""In which states the machines may have stood, and the calls states, bad, kept, holds, before."""

from keptaway.refusals import NONE_SUCH, NOT_AS_TOLD
from keptaway.story import done, has_thing, links

# A state is kept as one number, as the document numbers states but by eights: with sevens, one thing more of a machine
# that did six would run over into the next machine's place. Which of two states has the lesser number stays the same.
EACH_COUNT = 8
PLACES = (1, 8, 64, 512)


def count_of(number, machine):
    """How many things that machine has done in the state."""
    return number // PLACES[machine] % EACH_COUNT


def counts_of(story, number):
    return [count_of(number, machine) for machine in range(story.machines)]


def last_state(story):
    """The state in which all is done."""
    return sum([done(story, machine) * PLACES[machine] for machine in range(story.machines)])


def steps(story):
    """What each machine's next thing adds to a state's number."""
    return PLACES[:story.machines]


def least_state(story, rows, machine, which):
    """How many things each machine has done where that thing is done, and nothing that needn't be."""
    counts = [0 for other in range(story.machines)]
    counts[machine] = which
    grown = True
    while grown:
        grown = False
        for p, j, m, i in rows:
            if counts[m] >= i and counts[p] < j:
                counts[p] = j
                grown = True
    return counts


def is_before(story, p, j, m, i):
    """Whether machine p's thing j is before machine m's thing i."""
    if p == m and j == i:
        return False
    # What is done in every state with the second thing is just what is done in the least of these.
    return least_state(story, links(story), m, i)[p] >= j


def states_among(rows, choices):
    """The states that the rows allow with each machine's count one of its choices, the least number first."""
    found = [0]
    # From the last machine down, as it counts most in a state's number.
    for machine in range(len(choices) - 1, -1, -1):
        # Rows to machines ahead of this one come when those do.
        near = [row for row in rows if min(row[0], row[2]) == machine]
        found = with_machine(near, found, machine, choices[machine])
    return found


def with_machine(rows, found, machine, counts):
    """The states found, in which only the machines behind this one did things, with what this one may have done."""
    longer = []
    for number in found:
        for count in fitting_counts(rows, number, machine, counts):
            longer.append(number + count * PLACES[machine])
    return longer


def fitting_counts(rows, number, machine, counts):
    """Those of the counts that the machine may have done, if the machines behind it did what the state tells."""
    least = 0
    most = EACH_COUNT
    for p, j, m, i in rows:
        if p == machine:
            if count_of(number, m) >= i:
                least = max(least, j)
        elif count_of(number, p) < j:
            most = min(most, i - 1)
    return [count for count in counts if count >= least and count <= most]


def passing_counts(story, machine):
    """Behind how many of its things the machine passes its test."""
    allowed = story.tests[machine]
    return [count for count, value in enumerate(story.left_with[machine]) if ((allowed >> value) & 1) == 1]


def possible_states(story, rows):
    """All states that the rows allow, the least number first."""
    return states_among(rows, [list(range(done(story, machine) + 1)) for machine in range(story.machines)])


def bad_states(story, rows):
    """The bad ones of the states that the rows allow, the least number first."""
    return states_among(rows, [passing_counts(story, machine) for machine in range(story.machines)])


def is_kept(story, rows):
    """Whether the rows allow no bad state."""
    return len(bad_states(story, rows)) == 0


def states(story):
    return [len(possible_states(story, links(story)))]


def bad(story):
    found = bad_states(story, links(story))
    if len(found) == 0:
        return [0]
    return [len(found)] + counts_of(story, found[0])


def kept(story):
    return [1 if is_kept(story, links(story)) else 0]


def allows(rows, counts):
    """Whether the rows allow the state in which the machines have done so many things."""
    for p, j, m, i in rows:
        if counts[m] >= i and counts[p] < j:
            return False
    return True


def is_told_state(story, counts):
    """Whether each machine has a count, none greater than what that machine did."""
    if len(counts) != story.machines:
        return False
    for machine, count in enumerate(counts):
        if count > done(story, machine):
            return False
    return True


def all_pass(story, counts):
    for machine, count in enumerate(counts):
        if count not in passing_counts(story, machine):
            return False
    return True


def holds(story, counts):
    if not is_told_state(story, counts):
        return [NOT_AS_TOLD]
    return [1 if allows(links(story), counts) else 0, 1 if all_pass(story, counts) else 0]


def before(story, m, i, p, j):
    if not has_thing(story, m, i) or not has_thing(story, p, j):
        return [NONE_SUCH]
    return [1 if is_before(story, m, i, p, j) else 0, 1 if is_before(story, p, j, m, i) else 0]
