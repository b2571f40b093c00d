"""A list of calls on one new object, and the list of their answers."""

from keptaway.arrows import change_test, list_arrows, loose_arrow, put_arrow
from keptaway.refusals import NOT_BEGUN
from keptaway.states import bad, kept, states
from keptaway.story import Story
from keptaway.telling import back, begin, own, receive, send, state


class CallNotBuilt(Exception):
    """A call that the program doesn't have yet was made on an object that is begun."""


def answers(calls):
    story = Story()
    given = []
    place = 0
    while place < len(calls):
        count = calls[place + 1]
        numbers = calls[place + 2:place + 2 + count]
        answer = answer_call(story, calls[place], numbers)
        given.append(len(answer))
        given.extend(answer)
        # The call's number, the two counts, and no list: none is ever handed to a call.
        place += count + 3
    return given


def answer_call(story, call, numbers):
    if call == 0:
        return begin(story, numbers[0])
    if story.machines == 0:
        return [NOT_BEGUN]
    if call <= 5:
        return answer_telling(story, call, numbers)
    if call <= 9:
        return answer_arrows(story, call, numbers)
    if call <= 12:
        return answer_states(story, call)
    raise CallNotBuilt(f"call {call}")


def answer_telling(story, call, numbers):
    if call == 1:
        return own(story, numbers[0], numbers[1])
    if call == 2:
        return send(story, numbers[0], numbers[1], numbers[2])
    if call == 3:
        return receive(story, numbers[0], numbers[1], numbers[2])
    if call == 4:
        return back(story)
    return state(story)


def answer_arrows(story, call, numbers):
    if call == 6:
        return change_test(story, numbers[0], numbers[1])
    if call == 7:
        return put_arrow(story, numbers[0], numbers[1], numbers[2], numbers[3])
    if call == 8:
        return loose_arrow(story, numbers[0])
    return list_arrows(story)


def answer_states(story, call):
    if call == 10:
        return states(story)
    if call == 11:
        return bad(story)
    return kept(story)
