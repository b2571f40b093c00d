"""What was told so far on one object, and plain questions about it."""

MOST_THINGS = 6
ALL_VALUES = 1023


class Story:
    """The machines' things, messages, tests and arrows.

    A message or an arrow is a row (p, j, m, i): machine p's thing j has to be done before machine m's thing i.
    The i of a message that isn't received yet is 0, as things are numbered from 1.
    """

    def __init__(self):
        # No begin makes no machine, so 0 machines tell that none was answered 0 yet.
        self.start(0)

    def start(self, machines):
        """Forget all, and have so many machines that did nothing."""
        self.machines = machines
        self.told = []
        # The leading 0 is the value before the first thing, so row[c] is the value behind c things.
        self.left_with = [[0] for machine in range(machines)]
        self.messages = []
        self.tests = [ALL_VALUES for machine in range(machines)]
        self.arrows = []


def has_machine(story, machine):
    return machine < story.machines


def done(story, machine):
    """How many things the machine did."""
    return len(story.left_with[machine]) - 1


def has_thing(story, machine, which):
    return has_machine(story, machine) and which > 0 and which <= done(story, machine)


def is_full(story, machine):
    return done(story, machine) == MOST_THINGS


def received(story):
    """The rows of the messages that are received: one that isn't binds nothing yet."""
    return [row for row in story.messages if row[3] > 0]


def links(story):
    """All rows (p, j, m, i) that bind a state: the messages that are received, and the arrows."""
    return received(story) + story.arrows
