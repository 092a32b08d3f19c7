"""Lines of calls on one object, and their answers."""

from doubtviews.asking import ask_always, ask_blame, ask_cheapest, ask_conflicts, ask_cost, ask_enough, ask_fewest
from doubtviews.asking import ask_if_table, ask_if_trust, ask_kept, ask_never, ask_together, ask_ways
from doubtviews.changes import add_view, begin, drop_view, put_table, put_trust, see_world, tell_view
from doubtviews.refusals import NOT_BEGUN, WRONG
from doubtviews.state import State

HIGHEST_KIND = 2


def answers(calls):
    """For each call of a line how many numbers are answered, then these."""
    state = State()
    given = []
    at = 0
    while at < len(calls):
        behind = at + 2 + calls[at + 1]
        answer = answer_call(state, calls[at], calls[at + 2:behind])
        given.append(len(answer))
        given.extend(answer)
        # One number more is passed over: how many lists the call has, which is always 0.
        at = behind + 1
    return given


def answer_call(state, call, numbers):
    """The numbers that one call is answered by."""
    if call == 0:
        return begin(state, numbers[0])
    if state.questions == 0:
        return [NOT_BEGUN]
    if call <= 6:
        return answer_change(state, call, numbers)
    return answer_question(state, call, numbers)


def answer_change(state, call, numbers):
    """The answer of a call that makes, changes or tells views."""
    if call == 1:
        return add_view(state, numbers[0])
    if call == 2:
        return drop_view(state, numbers[0])
    if call == 3:
        return put_table(state, numbers[0], numbers[1:])
    if call == 4:
        return tell_view(state, numbers[0])
    if call == 5:
        return see_world(state, numbers[0])
    return put_trust(state, numbers[0], numbers[1])


def answer_question(state, call, numbers):
    """The answer of a call that asks about the views."""
    if call == 19:
        return ask_cost(state, numbers[0])
    # All others have a kind first, and a kind that there isn't is refused ahead of all else.
    kind = numbers[0]
    if kind > HIGHEST_KIND:
        return [WRONG]
    if len(numbers) == 1:
        return answer_of_all(state, call, kind)
    return answer_of_some(state, call, kind, numbers[1:])


def answer_of_all(state, call, kind):
    """The answer of a call that asks about all views, by a kind."""
    if call == 8:
        return ask_conflicts(state, kind)
    if call == 9:
        return ask_fewest(state, kind)
    if call == 10:
        return ask_cheapest(state, kind)
    if call == 11:
        return ask_ways(state, kind)
    if call == 12:
        return ask_never(state, kind)
    if call == 13:
        return ask_always(state, kind)
    return ask_kept(state, kind)


def answer_of_some(state, call, kind, numbers):
    """The answer of a call that asks, by a kind, about a set of views or about one view."""
    if call == 7:
        return ask_together(state, kind, numbers[0])
    if call == 14:
        return ask_blame(state, kind, numbers[0])
    if call == 15:
        return ask_enough(state, kind, numbers[0])
    if call == 16:
        return ask_if_table(state, kind, numbers[0], numbers[1:])
    return ask_if_trust(state, kind, numbers[0], numbers[1])
