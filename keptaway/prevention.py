"""The arrows that prevent it, and those that are put in for nothing: the calls prevent, take, idle."""

from keptaway.arrows import MOST_ARROWS, tell_arrows
from keptaway.orders import count_missing, missing_ways, order_at
from keptaway.refusals import THERE_IS_NONE, TOO_MANY
from keptaway.states import is_before, is_kept
from keptaway.story import links, received


def things_in(story, order):
    """The things as they come in the order, as pairs of machine and which."""
    counts = [0 for machine in range(story.machines)]
    found = []
    for machine in order:
        counts[machine] += 1
        found.append((machine, counts[machine]))
    return found


def arrows_along(story, order):
    """From each thing of the order to the next one, if they're two machines' and it isn't before that, an arrow."""
    things = things_in(story, order)
    found = []
    for first, second in zip(things, things[1:]):
        two_machines = first[0] != second[0]
        if two_machines and not is_before(story, first[0], first[1], second[0], second[1]):
            found.append(first + second)
    return found


def without_needless(story, arrows):
    """The arrows, from the first on left out where those that are still there keep it away."""
    left = arrows
    for arrow in arrows:
        rest = [row for row in left if row != arrow]
        if is_kept(story, links(story) + rest):
            left = rest
    return left


def preventing_arrows(story, ways):
    """The arrows that prevent it; the ways are those of the orders that miss it, and there's one."""
    return without_needless(story, arrows_along(story, order_at(story, ways, 0)))


def prevent(story):
    ways = missing_ways(story)
    if count_missing(ways) == 0:
        return [THERE_IS_NONE]
    return tell_arrows(preventing_arrows(story, ways))


def take(story):
    ways = missing_ways(story)
    if count_missing(ways) == 0:
        return [THERE_IS_NONE]
    found = preventing_arrows(story, ways)
    if len(story.arrows) + len(found) > MOST_ARROWS:
        return [TOO_MANY]
    story.arrows.extend(found)
    return [len(story.arrows)]


def idle(story):
    if not is_kept(story, links(story)):
        return [THERE_IS_NONE]
    found = []
    for arrow in range(len(story.arrows)):
        rest = story.arrows[:arrow] + story.arrows[arrow + 1:]
        if is_kept(story, received(story) + rest):
            found.append(arrow)
    return [len(found)] + found
