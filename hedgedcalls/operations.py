"""The operations that change a client; each checks all its errors before it changes anything."""

from hedgedcalls.lifecycle import end_attempt, end_call, start_attempt
from hedgedcalls.limits import CANCELLED, UNAVAILABLE, is_status, within
from hedgedcalls.refusals import missing, not_running, outside_limits, too_many
from hedgedcalls.state import RUNNING, Backend, Call, active_backends, running_among
from hedgedcalls.timers import earliest_timer, fire, fire_until

MOST_BACKENDS = 8
MOST_CALLS = 60
MOST_ATTEMPTS = 200
MOST_STATUSES = 40
NO_PUSHBACK = 0


def final_status(call):
    """The final status plus 1, or 0 if the call is open."""
    return 0 if call.status is None else call.status + 1


def is_active(client, backend):
    return backend < len(client.backends) and client.backends[backend].active


def is_weight(weight):
    return within(weight, 1, 100)


def add_backend(client, weight):
    if not is_weight(weight):
        return outside_limits()
    number = len(client.backends)
    if number >= MOST_BACKENDS:
        return too_many()
    client.backends.append(Backend(number, weight))
    return [number]


def remove_backend(client, backend):
    if not is_active(client, backend):
        return missing()
    removed = client.backends[backend]
    removed.active = False
    for attempt in running_among(client.attempts):
        # The end of an attempt may cancel others, so each is asked again when its turn comes.
        if attempt.backend.number == backend and attempt.state == RUNNING:
            end_attempt(client, attempt, UNAVAILABLE, NO_PUSHBACK)
    return [len(active_backends(client))]


def set_weight(client, backend, weight):
    if not is_active(client, backend):
        return missing()
    if not is_weight(weight):
        return outside_limits()
    changed = client.backends[backend]
    old = changed.weight
    changed.weight = weight
    return [old]


def start_call(client, timeout, idempotent, key):
    if not within(timeout, 1, 100000) or not within(idempotent, 0, 1):
        return outside_limits()
    number = len(client.calls)
    if number >= MOST_CALLS or len(client.attempts) >= MOST_ATTEMPTS:
        return too_many()
    call = Call(number, client.now + timeout, idempotent == 1, key)
    client.calls.append(call)
    start_attempt(client, call, True)
    return [number, final_status(call)]


def complete(client, attempt, status, pushback):
    if attempt >= len(client.attempts):
        return missing()
    if not is_status(status) or not within(pushback, 0, 100002):
        return outside_limits()
    ended = client.attempts[attempt]
    if ended.state != RUNNING:
        return not_running()
    end_attempt(client, ended, status, pushback)
    return [final_status(ended.call)]


def cancel(client, call):
    if call >= len(client.calls):
        return missing()
    cancelled = client.calls[call]
    if cancelled.status is not None:
        return not_running()
    running = len(running_among(cancelled.attempts))
    end_call(client, cancelled, CANCELLED)
    return [running]


def advance(client, duration):
    if not within(duration, 0, 1000000):
        return outside_limits()
    fired = fire_until(client, client.now + duration)
    return [fired, client.now]


def run(client, statuses):
    if len(statuses) > MOST_STATUSES or not all([is_status(status) for status in statuses]):
        return outside_limits()
    for status in statuses:
        run_step(client, status)
    return [len(running_among(client.attempts)), client.now]


def run_step(client, status):
    running = running_among(client.attempts)
    if running:
        end_attempt(client, running[0], status, NO_PUSHBACK)
        return
    timer = earliest_timer(client)
    if timer is not None:
        fire(client, timer)
