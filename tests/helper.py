"""Builds lists of calls for hedgedcalls.clients.answers, chosen or at random, and takes its answers apart again."""

import random

from hedgedcalls.clients import answers

NO_CLIENT = [-11]
MISSING = [-2]
OUTSIDE = [-22]
NOT_RUNNING = [-16]
TOO_MANY = [-28]
NOTHING = [-33]

MOST = 4294967295
KEYS = (0, 1, 2, 7, 255, 256, 65535, 65536, 16777215, 16777216, 305419896, 2147483648, MOST)

PLAIN_POLICY = {
    "max_attempts": 3,
    "initial_backoff": 100,
    "max_backoff": 1000,
    "multiplier": 200,
    "hedge_delay": 0,
    "threshold": 0,
    "ejection_time": 1000,
    "ejection_percent": 100,
    "max_tokens": 0,
    "refund": 0,
}


def operation(number, *numbers):
    return [number, len(numbers), *numbers, 0]


def parameters(retryable=(14,), **changes):
    unknown = set(changes) - set(PLAIN_POLICY)
    if unknown:
        raise ValueError(f"no such parameters: {unknown}")
    return [*{**PLAIN_POLICY, **changes}.values(), *retryable]


def create_with(seed, balancer, policy):
    return operation(0, seed, balancer, *policy)


def create(seed=1, balancer=0, **policy):
    return create_with(seed, balancer, parameters(**policy))


def add_backend(weight=1):
    return operation(1, weight)


def remove_backend(backend):
    return operation(2, backend)


def set_weight(backend, weight):
    return operation(3, backend, weight)


def start_call(timeout=1000, idempotent=1, key=0):
    return operation(4, timeout, idempotent, key)


def complete(attempt, status, pushback=0):
    return operation(5, attempt, status, pushback)


def cancel(call):
    return operation(6, call)


def advance(duration):
    return operation(7, duration)


def next_timer():
    return operation(8)


def run(*statuses):
    return operation(9, *statuses)


def call_info(call):
    return operation(10, call)


def attempt_info(attempt):
    return operation(11, attempt)


def call_attempts(call):
    return operation(12, call)


def backend_info(backend):
    return operation(13, backend)


def running_attempts():
    return operation(14)


def preview_choice(key=0):
    return operation(15, key)


def ranking(key=0):
    return operation(16, key)


def hash_call(key, backend):
    return operation(17, key, backend)


def available_backends():
    return operation(18)


def backoff_bound(retry):
    return operation(19, retry)


def budget():
    return operation(20)


def totals():
    return operation(21)


def client_status():
    return operation(22)


def flat(calls):
    return [number for call in calls for number in call]


def taken_apart(told):
    """The answers one by one, from a list in which each stands behind its length."""
    apart = []
    place = 0
    while place < len(told):
        end = place + 1 + told[place]
        apart.append(told[place + 1:end])
        place = end
    if place != len(told):
        raise ValueError("the last answer is shorter than its length tells")
    return apart


def ask(*calls):
    apart = taken_apart(answers(flat(calls)))
    if len(apart) != len(calls):
        raise ValueError(f"{len(calls)} calls, but {len(apart)} answers")
    return apart


def last(*calls):
    return ask(*calls)[-1]


def backends_of(setup, attempts):
    """The backends of these attempts behind the calls of the setup."""
    told = ask(*setup, *[attempt_info(attempt) for attempt in attempts])
    return [answer[1] for answer in told[len(setup):]]


def ranked(key, backends):
    return sorted(backends, key=lambda backend: -hash_of(key, backend))


def next_seed(seed):
    return (1103515245 * seed + 12345) % 2 ** 31


def fnv_1a(data):
    value = 2166136261
    for byte in data:
        value = (value ^ byte) * 16777619 % 2 ** 32
    return value


def hash_of(key, backend):
    return fnv_1a([*key.to_bytes(4, "little"), backend])


class Walk:
    """A list of calls that grows at random, always in the same way for the same seed."""

    def __init__(self, seed):
        self.dice = random.Random(seed)
        self.policy = {
            "max_attempts": self.dice.randint(1, 5),
            "initial_backoff": self.dice.choice((0, 5, 50)),
            "max_backoff": self.dice.choice((0, 20, 1000)),
            "multiplier": self.dice.choice((100, 150, 200)),
            "hedge_delay": self.dice.choice((0, 0, 3, 20)),
            "threshold": self.dice.randint(0, 2),
            "ejection_time": self.dice.choice((1, 10, 50)),
            "ejection_percent": self.dice.choice((0, 50, 100)),
            "max_tokens": self.dice.choice((0, 3, 10)),
            "refund": self.dice.choice((0, 100, 1000)),
        }
        retryable = self.dice.choice(((), (14,), (2, 14), range(1, 17)))
        self.calls = [create(self.dice.randint(0, 9), self.dice.randint(0, 3), retryable=retryable, **self.policy)]
        self.idempotent = []

    def step(self):
        dice = self.dice
        kind = dice.choice(("add", "remove", "weight", "start", "start", "start", "complete", "complete", "complete",
                            "complete", "cancel", "advance", "advance", "run"))
        status = dice.choice((0, 2, 5, 14, 14, 100, 100))
        if kind == "start":
            self.idempotent.append(dice.randint(0, 1))
        made = {
            "add": lambda: add_backend(dice.randint(1, 5)),
            "remove": lambda: remove_backend(dice.randint(0, 3)),
            "weight": lambda: set_weight(dice.randint(0, 3), dice.randint(1, 5)),
            "start": lambda: start_call(dice.choice((10, 50, 300)), self.idempotent[-1], dice.randint(0, 99)),
            "complete": lambda: complete(dice.randint(0, 12), status, dice.choice((0, 0, 1, 2, 7, 60))),
            "cancel": lambda: cancel(dice.randint(0, 5)),
            "advance": lambda: advance(dice.choice((0, 1, 3, 10, 40))),
            "run": lambda: run(*[dice.choice((0, 2, 14, 14, 100)) for number in range(dice.randint(0, 4))]),
        }
        self.calls.append(made[kind]())

    def asked(self, *questions):
        return ask(*self.calls, *questions)[len(self.calls):]

    def asked_of_each(self, question):
        """The answers to a question about number 0, 1 and so on, as long as they exist."""
        told = []
        while True:
            count = 60 - len(self.calls)
            more = self.asked(*[question(len(told) + number) for number in range(count)])
            told += [answer for answer in more if answer != [-2]]
            if more[-1] == [-2]:
                return told


class Sight:
    """All that a walk has led to so far."""

    def __init__(self, walk, key):
        self.status, self.totals, self.budget, self.running, self.available, self.preview, self.ranking = walk.asked(
            client_status(), totals(), budget(), running_attempts(), available_backends(), preview_choice(key),
            ranking(key),
        )
        self.now = self.status[0]
        self.calls = walk.asked_of_each(call_info)
        self.own_attempts = walk.asked_of_each(call_attempts)
        self.attempts = walk.asked_of_each(attempt_info)
        self.backends = walk.asked_of_each(backend_info)
