"""Lines of calls on one object, and their answers."""

from doubtviews.changes import add_view, begin, drop_view, put_table, put_trust, see_world, tell_view
from doubtviews.asking import ask_conflicts, ask_fewest, ask_together
from doubtviews.refusals import NOT_BEGUN
from doubtviews.state import State


class UnknownCall(ValueError):
    """A call's number that stands for no call."""


def answers(calls):
    """For each call of a line how many numbers are answered, then these."""
    state = State()
    given = []
    at = 0
    while at < len(calls):
        behind = at + 2 + calls[at + 1]
        answer = answer_call(state, calls[at], calls[at + 2:behind])
        given.append(len(answer))
        given.extend(answer)
        # One number more is passed over: how many lists the call has, which is always 0.
        at = behind + 1
    return given


def answer_call(state, call, numbers):
    """The numbers that one call is answered by."""
    if call == 0:
        return begin(state, numbers[0])
    if state.questions == 0:
        return [NOT_BEGUN]
    if call <= 6:
        return answer_change(state, call, numbers)
    return answer_question(state, call, numbers)


def answer_change(state, call, numbers):
    """The answer of a call that makes, changes or tells views."""
    if call == 1:
        return add_view(state, numbers[0])
    if call == 2:
        return drop_view(state, numbers[0])
    if call == 3:
        return put_table(state, numbers[0], numbers[1:])
    if call == 4:
        return tell_view(state, numbers[0])
    if call == 5:
        return see_world(state, numbers[0])
    return put_trust(state, numbers[0], numbers[1])


def answer_question(state, call, numbers):
    """The answer of a call that asks about the views."""
    if call == 7:
        return ask_together(state, numbers[0], numbers[1])
    if call == 8:
        return ask_conflicts(state, numbers[0])
    if call == 9:
        return ask_fewest(state, numbers[0])
    raise UnknownCall(f"no such call: {call}")
