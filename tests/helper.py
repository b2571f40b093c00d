"""Calls by their names, written as the one list of numbers that the program takes, and its answers call by call."""

from keptaway.table import answers

NAMES = (
    "begin own send receive back state test arrow loose arrows states bad kept orders surely misses miss before"
    " singles best leaves prevent take idle fits holds"
).split()

GREATEST = 4294967295


def written(calls):
    """calls: tuples of a name and its numbers."""
    numbers = []
    for name, *given in calls:
        numbers += [NAMES.index(name), len(given), *given, 0]
    return numbers


def split(numbers):
    found = []
    place = 0
    while place < len(numbers):
        count = numbers[place]
        found.append(numbers[place + 1:place + 1 + count])
        place += count + 1
    return found


def run(*calls):
    return split(answers(written(calls)))


def last(*calls):
    return run(*calls)[-1]


def looks(machines):
    """Calls that tell the whole object: its tests (by setting each anew), then each machine's values, one by one."""
    asked = [(name,) for name in "state arrows states bad kept orders misses prevent fits".split()]
    asked += [("test", machine, 1023) for machine in range(machines)]
    for machine in range(machines):
        for value in range(10):
            asked += [("test", machine, 1 << value), ("bad",)]
        asked.append(("test", machine, 1023))
    return asked


def assert_refused(case, before, call, refusal):
    """The call answers the refusal alone, and the object is as it was."""
    begun = [given[1] for given in before if given[0] == "begin" and 1 <= given[1] <= 4]
    asked = looks(begun[-1] if begun else 0)
    found = run(*before, call, *asked)
    plain = run(*before, *asked)
    case.assertEqual(found[len(before)], [refusal], (before, call))
    case.assertEqual(found[len(before) + 1:], plain[len(before):], (before, call))
