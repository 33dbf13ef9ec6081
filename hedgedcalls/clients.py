"""The way in: the calls on one client as a list of whole numbers, and their answers as another."""

from hedgedcalls.limits import within
from hedgedcalls.operations import (
    add_backend, advance, cancel, complete, remove_backend, run, set_weight, start_call,
)
from hedgedcalls.policy import Policy, parameters_allowed
from hedgedcalls.questions import (
    tell_attempt, tell_available_backends, tell_backend, tell_backoff_bound, tell_budget, tell_call,
    tell_call_attempts, tell_hash, tell_next_timer, tell_preview, tell_ranking, tell_running_attempts, tell_status,
    tell_totals,
)
from hedgedcalls.refusals import no_client, outside_limits
from hedgedcalls.state import Client

CREATE = 0


class Session:
    """Holds the client of one list of calls: None until a create has succeeded."""

    def __init__(self):
        self.client = None


def answers(calls):
    """Carries out the calls one behind another; gives back each answer behind its length."""
    session = Session()
    told = []
    place = 0
    while place < len(calls):
        end = place + 2 + calls[place + 1]
        answer = answer_call(session, calls[place], calls[place + 2:end])
        told.append(len(answer))
        told.extend(answer)
        # Behind a call's numbers stands how many lists it has, which is 0 for every call.
        place = end + 1
    return told


def answer_call(session, operation, numbers):
    if operation == CREATE:
        return answer_create(session, numbers[0], numbers[1], numbers[2:])
    if session.client is None:
        return no_client()
    return ANSWERS[operation](session.client, numbers)


def answer_create(session, seed, balancer, parameters):
    if not within(seed, 0, 2147483647) or not within(balancer, 0, 3) or not parameters_allowed(parameters):
        return outside_limits()
    session.client = Client(seed, balancer, Policy(parameters))
    return [0]


def answer_add_backend(client, numbers):
    return add_backend(client, numbers[0])


def answer_remove_backend(client, numbers):
    return remove_backend(client, numbers[0])


def answer_set_weight(client, numbers):
    return set_weight(client, numbers[0], numbers[1])


def answer_start_call(client, numbers):
    return start_call(client, numbers[0], numbers[1], numbers[2])


def answer_complete(client, numbers):
    return complete(client, numbers[0], numbers[1], numbers[2])


def answer_cancel(client, numbers):
    return cancel(client, numbers[0])


def answer_advance(client, numbers):
    return advance(client, numbers[0])


def answer_next_timer(client, numbers):
    return tell_next_timer(client)


def answer_run(client, numbers):
    return run(client, numbers)


def answer_call_info(client, numbers):
    return tell_call(client, numbers[0])


def answer_attempt_info(client, numbers):
    return tell_attempt(client, numbers[0])


def answer_call_attempts(client, numbers):
    return tell_call_attempts(client, numbers[0])


def answer_backend_info(client, numbers):
    return tell_backend(client, numbers[0])


def answer_running_attempts(client, numbers):
    return tell_running_attempts(client)


def answer_preview_choice(client, numbers):
    return tell_preview(client, numbers[0])


def answer_ranking(client, numbers):
    return tell_ranking(client, numbers[0])


def answer_hash(client, numbers):
    return tell_hash(numbers[0], numbers[1])


def answer_available_backends(client, numbers):
    return tell_available_backends(client)


def answer_backoff_bound(client, numbers):
    return tell_backoff_bound(client, numbers[0])


def answer_budget(client, numbers):
    return tell_budget(client)


def answer_totals(client, numbers):
    return tell_totals(client)


def answer_status(client, numbers):
    return tell_status(client)


ANSWERS = {
    1: answer_add_backend,
    2: answer_remove_backend,
    3: answer_set_weight,
    4: answer_start_call,
    5: answer_complete,
    6: answer_cancel,
    7: answer_advance,
    8: answer_next_timer,
    9: answer_run,
    10: answer_call_info,
    11: answer_attempt_info,
    12: answer_call_attempts,
    13: answer_backend_info,
    14: answer_running_attempts,
    15: answer_preview_choice,
    16: answer_ranking,
    17: answer_hash,
    18: answer_available_backends,
    19: answer_backoff_bound,
    20: answer_budget,
    21: answer_totals,
    22: answer_status,
}
