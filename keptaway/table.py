"""A list of calls on one new object, and the list of their answers."""

from keptaway.arrows import change_test, list_arrows, loose_arrow, put_arrow
from keptaway.orders import fits, miss, misses, orders, surely
from keptaway.prevention import idle, prevent, take
from keptaway.refusals import NOT_BEGUN
from keptaway.singles import best, leaves, singles
from keptaway.states import bad, before, holds, kept, states
from keptaway.story import Story
from keptaway.telling import back, begin, own, receive, send, state


def answers(calls):
    story = Story()
    given = []
    place = 0
    while place < len(calls):
        count = calls[place + 1]
        numbers = calls[place + 2:place + 2 + count]
        answer = answer_call(story, calls[place], numbers)
        given.append(len(answer))
        given.extend(answer)
        # The call's number, the two counts, and no list: none is ever handed to a call.
        place += count + 3
    return given


def answer_call(story, call, numbers):
    if call == 0:
        return begin(story, numbers[0])
    if story.machines == 0:
        return [NOT_BEGUN]
    if call <= 5:
        return answer_telling(story, call, numbers)
    if call <= 9:
        return answer_arrows(story, call, numbers)
    if call <= 12:
        return answer_states(story, call)
    if call <= 17:
        return answer_orders(story, call, numbers)
    if call <= 20:
        return answer_singles(story, call, numbers)
    return answer_rest(story, call, numbers)


def answer_telling(story, call, numbers):
    if call == 1:
        return own(story, numbers[0], numbers[1])
    if call == 2:
        return send(story, numbers[0], numbers[1], numbers[2])
    if call == 3:
        return receive(story, numbers[0], numbers[1], numbers[2])
    if call == 4:
        return back(story)
    return state(story)


def answer_arrows(story, call, numbers):
    if call == 6:
        return change_test(story, numbers[0], numbers[1])
    if call == 7:
        return put_arrow(story, numbers[0], numbers[1], numbers[2], numbers[3])
    if call == 8:
        return loose_arrow(story, numbers[0])
    return list_arrows(story)


def answer_states(story, call):
    if call == 10:
        return states(story)
    if call == 11:
        return bad(story)
    return kept(story)


def answer_orders(story, call, numbers):
    if call == 13:
        return orders(story)
    if call == 14:
        return surely(story)
    if call == 15:
        return misses(story)
    if call == 16:
        return miss(story, numbers[0])
    return before(story, numbers[0], numbers[1], numbers[2], numbers[3])


def answer_singles(story, call, numbers):
    if call == 18:
        return singles(story)
    if call == 19:
        return best(story)
    return leaves(story, numbers[0], numbers[1], numbers[2], numbers[3])


def answer_rest(story, call, numbers):
    if call == 21:
        return prevent(story)
    if call == 22:
        return take(story)
    if call == 23:
        return idle(story)
    if call == 24:
        return fits(story)
    return holds(story, numbers)
