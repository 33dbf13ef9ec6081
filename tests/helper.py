"""Builds lists of calls for hedgedcalls.clients.answers and takes its answers apart again."""

from hedgedcalls.clients import answers

NO_CLIENT = [-11]
MISSING = [-2]
OUTSIDE = [-22]
NOT_RUNNING = [-16]
TOO_MANY = [-28]
NOTHING = [-33]

PLAIN_POLICY = {
    "max_attempts": 3,
    "initial_backoff": 100,
    "max_backoff": 1000,
    "multiplier": 200,
    "hedge_delay": 0,
    "threshold": 0,
    "ejection_time": 1000,
    "ejection_percent": 100,
    "max_tokens": 0,
    "refund": 0,
}


def operation(number, *numbers):
    return [number, len(numbers), *numbers, 0]


def parameters(retryable=(14,), **changes):
    unknown = set(changes) - set(PLAIN_POLICY)
    if unknown:
        raise ValueError(f"no such parameters: {unknown}")
    return [*{**PLAIN_POLICY, **changes}.values(), *retryable]


def create_with(seed, balancer, policy):
    return operation(0, seed, balancer, *policy)


def create(seed=1, balancer=0, **policy):
    return create_with(seed, balancer, parameters(**policy))


def add_backend(weight=1):
    return operation(1, weight)


def remove_backend(backend):
    return operation(2, backend)


def set_weight(backend, weight):
    return operation(3, backend, weight)


def start_call(timeout=1000, idempotent=1, key=0):
    return operation(4, timeout, idempotent, key)


def complete(attempt, status, pushback=0):
    return operation(5, attempt, status, pushback)


def cancel(call):
    return operation(6, call)


def advance(duration):
    return operation(7, duration)


def next_timer():
    return operation(8)


def run(*statuses):
    return operation(9, *statuses)


def call_info(call):
    return operation(10, call)


def attempt_info(attempt):
    return operation(11, attempt)


def flat(calls):
    return [number for call in calls for number in call]


def taken_apart(told):
    """The answers one by one, from a list in which each stands behind its length."""
    apart = []
    place = 0
    while place < len(told):
        end = place + 1 + told[place]
        apart.append(told[place + 1:end])
        place = end
    if place != len(told):
        raise ValueError("the last answer is shorter than its length tells")
    return apart


def ask(*calls):
    apart = taken_apart(answers(flat(calls)))
    if len(apart) != len(calls):
        raise ValueError(f"{len(calls)} calls, but {len(apart)} answers")
    return apart


def last(*calls):
    return ask(*calls)[-1]


def backends_of(setup, attempts):
    """The backends of these attempts behind the calls of the setup."""
    told = ask(*setup, *[attempt_info(attempt) for attempt in attempts])
    return [answer[1] for answer in told[len(setup):]]


def next_seed(seed):
    return (1103515245 * seed + 12345) % 2 ** 31


def fnv_1a(data):
    value = 2166136261
    for byte in data:
        value = (value ^ byte) * 16777619 % 2 ** 32
    return value


def hash_of(key, backend):
    return fnv_1a([*key.to_bytes(4, "little"), backend])
