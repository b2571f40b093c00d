"""The calls that set tests and put arrows in: test, arrow, loose, arrows."""

from keptaway.refusals import IN_A_RING, NONE_SUCH, NOT_AS_TOLD, SO_ALREADY, TOO_MANY
from keptaway.states import is_before
from keptaway.story import ALL_VALUES, has_machine, has_thing

MOST_ARROWS = 6


def change_test(story, machine, allowed):
    if not has_machine(story, machine):
        return [NONE_SUCH]
    if allowed > ALL_VALUES:
        return [NOT_AS_TOLD]
    was = story.tests[machine]
    story.tests[machine] = allowed
    return [was]


def arrow_refusal(story, p, j, m, i):
    """Why there can't be an arrow from machine p's thing j to machine m's thing i; 0 if there can."""
    if not has_thing(story, p, j) or not has_thing(story, m, i):
        return NONE_SUCH
    if p == m:
        return NOT_AS_TOLD
    if is_before(story, m, i, p, j):
        return IN_A_RING
    if is_before(story, p, j, m, i):
        return SO_ALREADY
    return 0


def put_arrow(story, p, j, m, i):
    refusal = arrow_refusal(story, p, j, m, i)
    if refusal < 0:
        return [refusal]
    if len(story.arrows) == MOST_ARROWS:
        return [TOO_MANY]
    story.arrows.append((p, j, m, i))
    return [len(story.arrows)]


def loose_arrow(story, arrow):
    if arrow >= len(story.arrows):
        return [NONE_SUCH]
    story.arrows.pop(arrow)
    return [len(story.arrows)]


def tell_arrows(rows):
    """How many arrows these are, then of each the four numbers."""
    told = [len(rows)]
    for row in rows:
        told.extend(row)
    return told


def list_arrows(story):
    return tell_arrows(story.arrows)
