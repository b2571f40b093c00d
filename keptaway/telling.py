"""The calls that tell what the machines did: begin, own, send, receive, back, state."""

from keptaway.refusals import ARROW_HANGS, NONE_SUCH, NOT_AS_TOLD, NOTHING_DONE, SO_ALREADY, TOO_MANY
from keptaway.story import done, has_machine, is_full

MOST_MACHINES = 4
MOST_VALUE = 9


def begin(story, machines):
    if machines < 1 or machines > MOST_MACHINES:
        return [NOT_AS_TOLD]
    story.start(machines)
    return [0]


def own(story, machine, value):
    if not has_machine(story, machine):
        return [NONE_SUCH]
    if value > MOST_VALUE:
        return [NOT_AS_TOLD]
    if is_full(story, machine):
        return [TOO_MANY]
    return [do_thing(story, machine, value)]


def send(story, machine, to, value):
    if not has_machine(story, machine) or not has_machine(story, to):
        return [NONE_SUCH]
    if value > MOST_VALUE or machine == to:
        return [NOT_AS_TOLD]
    if is_full(story, machine):
        return [TOO_MANY]
    which = do_thing(story, machine, value)
    story.messages.append((machine, which, to, 0))
    return [which, len(story.messages) - 1]


def receive(story, machine, message, value):
    if not has_machine(story, machine) or message >= len(story.messages):
        return [NONE_SUCH]
    row = story.messages[message]
    if value > MOST_VALUE or row[2] != machine:
        return [NOT_AS_TOLD]
    if row[3] > 0:
        return [SO_ALREADY]
    if is_full(story, machine):
        return [TOO_MANY]
    which = do_thing(story, machine, value)
    story.messages[message] = (row[0], row[1], machine, which)
    return [which]


def do_thing(story, machine, value):
    """Have the machine do its next thing; which of its things that is."""
    story.told.append(machine)
    story.left_with[machine].append(value)
    return done(story, machine)


def back(story):
    # Where nothing is done no arrow is put in, so these two refusals are never due at once.
    if len(story.told) == 0:
        return [NOTHING_DONE]
    machine = story.told[-1]
    which = done(story, machine)
    if hangs_on(story.arrows, machine, which):
        return [ARROW_HANGS]
    story.messages = messages_without(story.messages, machine, which)
    story.left_with[machine].pop()
    story.told.pop()
    return [len(story.told)]


def hangs_on(arrows, machine, which):
    for p, j, m, i in arrows:
        if (p == machine and j == which) or (m == machine and i == which):
            return True
    return False


def messages_without(messages, machine, which):
    """The messages as they are if that thing, the last one told, isn't done."""
    left = []
    for p, j, m, i in messages:
        if m == machine and i == which:
            left.append((p, j, m, 0))
        elif p != machine or j != which:
            left.append((p, j, m, i))
    return left


def state(story):
    counts = [done(story, machine) for machine in range(story.machines)]
    return [story.machines, len(story.messages)] + counts + story.told
