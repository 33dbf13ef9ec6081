"""The operations that only tell of a client."""

from hedgedcalls.operations import final_status
from hedgedcalls.refusals import missing, nothing_there
from hedgedcalls.timers import earliest_timer


def next_timer(client):
    timer = earliest_timer(client)
    if timer is None:
        return nothing_there()
    return list(timer)


def time_told(moment):
    """A time plus 1, or 0 if there is none."""
    return 0 if moment is None else moment + 1


def call_info(client, call):
    if call >= len(client.calls):
        return missing()
    asked = client.calls[call]
    return [
        final_status(asked),
        asked.deadline,
        asked.counted,
        asked.retries,
        1 if asked.transparent else 0,
        time_told(asked.retry_at),
        time_told(asked.hedge_at),
        asked.finished_at,
    ]


def attempt_info(client, attempt):
    if attempt >= len(client.attempts):
        return missing()
    asked = client.attempts[attempt]
    return [
        asked.call.number,
        asked.backend.number,
        asked.place,
        asked.started_at,
        asked.call.deadline - asked.started_at,
        asked.state,
        asked.status,
    ]
