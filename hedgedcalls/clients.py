"""The way in: the calls on one client as a list of whole numbers, and their answers as another."""

from hedgedcalls.limits import within
from hedgedcalls.operations import (
    add_backend, advance, cancel, complete, remove_backend, run, set_weight, start_call,
)
from hedgedcalls.policy import Policy, parameters_allowed
from hedgedcalls.questions import attempt_info, call_info, next_timer
from hedgedcalls.refusals import no_client, outside_limits
from hedgedcalls.state import Client

CREATE = 0


class Session:
    """Holds the client of one list of calls: None until a create has succeeded."""

    def __init__(self):
        self.client = None


def answers(calls):
    """Carries out the calls one behind another; gives back each answer behind its length."""
    session = Session()
    told = []
    place = 0
    while place < len(calls):
        end = place + 2 + calls[place + 1]
        answer = answer_call(session, calls[place], calls[place + 2:end])
        told.append(len(answer))
        told.extend(answer)
        # Behind a call's numbers stands how many lists it has, which is 0 for every call.
        place = end + 1
    return told


def answer_call(session, operation, numbers):
    if operation == CREATE:
        return answer_create(session, numbers[0], numbers[1], numbers[2:])
    if session.client is None:
        return no_client()
    return ANSWERS[operation](session.client, numbers)


def answer_create(session, seed, balancer, parameters):
    if not within(seed, 0, 2147483647) or not within(balancer, 0, 3) or not parameters_allowed(parameters):
        return outside_limits()
    session.client = Client(seed, balancer, Policy(parameters))
    return [0]


def answer_add_backend(client, numbers):
    return add_backend(client, numbers[0])


def answer_remove_backend(client, numbers):
    return remove_backend(client, numbers[0])


def answer_set_weight(client, numbers):
    return set_weight(client, numbers[0], numbers[1])


def answer_start_call(client, numbers):
    return start_call(client, numbers[0], numbers[1], numbers[2])


def answer_complete(client, numbers):
    return complete(client, numbers[0], numbers[1], numbers[2])


def answer_cancel(client, numbers):
    return cancel(client, numbers[0])


def answer_advance(client, numbers):
    return advance(client, numbers[0])


def answer_next_timer(client, numbers):
    return next_timer(client)


def answer_run(client, numbers):
    return run(client, numbers)


def answer_call_info(client, numbers):
    return call_info(client, numbers[0])


def answer_attempt_info(client, numbers):
    return attempt_info(client, numbers[0])


ANSWERS = {
    1: answer_add_backend,
    2: answer_remove_backend,
    3: answer_set_weight,
    4: answer_start_call,
    5: answer_complete,
    6: answer_cancel,
    7: answer_advance,
    8: answer_next_timer,
    9: answer_run,
    10: answer_call_info,
    11: answer_attempt_info,
}
