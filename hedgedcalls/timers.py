"""The timers of the open calls: (time, kind, number of the call)."""

from hedgedcalls.lifecycle import budget_allows, end_call, start_attempt
from hedgedcalls.limits import DEADLINE_EXCEEDED

AT_DEADLINE = 0
AT_RETRY = 1
AT_HEDGE = 2


def timers_of(call):
    if call.status is not None:
        return []
    timers = [(call.deadline, AT_DEADLINE, call.number)]
    if call.retry_at is not None:
        timers.append((call.retry_at, AT_RETRY, call.number))
    if call.hedge_at is not None:
        timers.append((call.hedge_at, AT_HEDGE, call.number))
    return timers


def earliest_timer(client):
    """The next timer, or None."""
    timers = []
    for call in client.calls:
        timers.extend(timers_of(call))
    return min(timers, default=None)


def fire(client, timer):
    client.now = max(client.now, timer[0])
    call = client.calls[timer[2]]
    if timer[1] == AT_DEADLINE:
        end_call(client, call, DEADLINE_EXCEEDED)
    elif timer[1] == AT_RETRY:
        start_attempt(client, call, True)
    elif budget_allows(client):
        client.hedges += 1
        start_attempt(client, call, True)
    else:
        call.hedge_at = None


def fire_until(client, end):
    """Fires all timers up to a time; tells how many."""
    fired = 0
    timer = earliest_timer(client)
    while timer is not None and timer[0] <= end:
        fire(client, timer)
        fired += 1
        timer = earliest_timer(client)
    client.now = end
    return fired
