"""The calls on one object, answered one behind another."""

from noasking.calls import AGAIN, ALLOW, ASK, BACK, BEGIN, CLOSED, DEED, DO, DROP, GATHER, KEEPS, RULE, SET
from noasking.calls import take_apart
from noasking.deeds import Deed
from noasking.doing import ask_deed, do_deed, gather
from noasking.history import History
from noasking.keeping import look_at_rule
from noasking.looks import look_at_all, look_at_one
from noasking.refusals import NOT_AS_TOLD, NOT_BEGUN
from noasking.telling import allow_deeds, drop_deed, set_state, tell_answer, tell_deed, tell_rule
from noasking.world import World, twin


def begin(history, facts, copies):
    if not 1 <= facts <= 4 or not 2 <= copies <= 4:
        return NOT_AS_TOLD
    history.start_with(World(facts, copies))
    return 0


def tell(world, call, numbers):
    if call == RULE:
        return tell_rule(world, numbers[0])
    if call == DEED:
        return tell_deed(world, Deed(numbers[0], numbers[1], numbers[2], numbers[3]))
    if call == DROP:
        return drop_deed(world, numbers[0])
    if call == ALLOW:
        return allow_deeds(world, numbers[0])
    if call == SET:
        return set_state(world, numbers[0])
    return tell_answer(world, numbers[0], numbers[1])


def change(world, call, numbers):
    if call == DO:
        return do_deed(world, numbers[0], numbers[1])
    if call == ASK:
        return ask_deed(world, numbers[0])
    if call == GATHER:
        return gather(world)
    return tell(world, call, numbers)


def change_and_keep(history, call, numbers):
    after = twin(history.world)
    answer = change(after, call, numbers)
    if answer >= 0:
        history.go_on_with(after)
    return answer


def look(world, call, numbers):
    if KEEPS <= call <= CLOSED:
        return look_at_rule(world, call, numbers)
    if numbers == []:
        return look_at_all(world, call)
    return look_at_one(world, call, numbers[0])


def answer_call(history, call, numbers):
    if call == BEGIN:
        return [begin(history, numbers[0], numbers[1])]
    if history.world is None:
        return [NOT_BEGUN]
    if call == BACK:
        return [history.take_back()]
    if call == AGAIN:
        return [history.do_again()]
    if RULE <= call <= GATHER:
        return [change_and_keep(history, call, numbers)]
    return look(history.world, call, numbers)


def answers(calls):
    """For each call how many numbers are answered, then these."""
    history = History()
    found = []
    for call, numbers in take_apart(calls):
        answered = answer_call(history, call, numbers)
        found.append(len(answered))
        found.extend(answered)
    return found
