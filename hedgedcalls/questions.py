"""The operations that only tell of a client."""

from hedgedcalls.balancing import available_backends, candidates, is_ejected, key_hash, pick
from hedgedcalls.lifecycle import budget_allows
from hedgedcalls.limits import OK, within
from hedgedcalls.operations import final_status
from hedgedcalls.policy import backoff_bound
from hedgedcalls.refusals import missing, nothing_there, outside_limits
from hedgedcalls.state import active_backends, running_among
from hedgedcalls.timers import earliest_timer

MOST_HASHED_BACKEND = 255
LAST_ASKED_RETRY = 10


def time_told(moment):
    """A time plus 1, or 0 if there is none."""
    return 0 if moment is None else moment + 1


def truth_told(truth):
    return 1 if truth else 0


def numbers_told(numbered):
    """How many backends or attempts there are, and then their numbers."""
    return [len(numbered)] + [one.number for one in numbered]


def tell_next_timer(client):
    timer = earliest_timer(client)
    if timer is None:
        return nothing_there()
    return list(timer)


def tell_call(client, call):
    if call >= len(client.calls):
        return missing()
    asked = client.calls[call]
    return [
        final_status(asked),
        asked.deadline,
        asked.counted,
        asked.retries,
        truth_told(asked.transparent),
        time_told(asked.retry_at),
        time_told(asked.hedge_at),
        asked.finished_at,
    ]


def tell_attempt(client, attempt):
    if attempt >= len(client.attempts):
        return missing()
    asked = client.attempts[attempt]
    return [
        asked.call.number,
        asked.backend.number,
        asked.place,
        asked.started_at,
        asked.call.deadline - asked.started_at,
        asked.state,
        asked.status,
    ]


def tell_call_attempts(client, call):
    if call >= len(client.calls):
        return missing()
    asked = client.calls[call]
    return numbers_told(asked.attempts)


def tell_backend(client, backend):
    if backend >= len(client.backends):
        return missing()
    asked = client.backends[backend]
    return [
        truth_told(asked.active),
        asked.weight,
        asked.outstanding,
        asked.failures,
        asked.ejections,
        time_told(asked.ejected_until),
        truth_told(is_ejected(client, asked)),
        asked.current,
    ]


def tell_running_attempts(client):
    return numbers_told(running_among(client.attempts))


def tell_preview(client, key):
    pool = candidates(client, [])
    if not pool:
        return nothing_there()
    chosen = pick(client, pool, key)
    return [chosen.number]


def tell_ranking(client, key):
    # Equal hashes stay in the order of the backends, as sorted keeps it.
    ranked = sorted(active_backends(client), key=lambda backend: -key_hash(key, backend.number))
    return numbers_told(ranked)


def tell_hash(key, backend):
    if backend > MOST_HASHED_BACKEND:
        return outside_limits()
    return [key_hash(key, backend)]


def tell_available_backends(client):
    return numbers_told(available_backends(client))


def tell_backoff_bound(client, retry):
    if not within(retry, 1, LAST_ASKED_RETRY):
        return outside_limits()
    return [backoff_bound(client.policy, retry)]


def tell_budget(client):
    return [client.tokens, truth_told(budget_allows(client))]


def tell_totals(client):
    ended = [call.status for call in client.calls if call.status is not None]
    succeeded = ended.count(OK)
    return [
        len(client.calls),
        succeeded,
        len(ended) - succeeded,
        len(client.attempts),
        client.retries,
        client.hedges,
        client.transparents,
    ]


def tell_status(client):
    return [
        client.now,
        client.seed,
        client.pointer,
        len(client.backends),
        len(active_backends(client)),
        len(running_among(client.attempts)),
    ]
