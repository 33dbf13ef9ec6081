"""How attempts start and end, and what becomes of their calls."""

from hedgedcalls.balancing import candidates, note_choice, note_failure, pick
from hedgedcalls.limits import OK, REFUSED, UNAVAILABLE, UNKNOWN
from hedgedcalls.policy import backoff_bound, most_tokens
from hedgedcalls.state import CANCELLED_STATE, FINISHED, Attempt, running_among

DONT_RETRY = 1


def budget_allows(client):
    most = most_tokens(client.policy)
    return most == 0 or 2 * client.tokens > most


def start_attempt(client, call, counted):
    pool = candidates(client, [attempt.backend.number for attempt in call.attempts])
    if not pool:
        end_call(client, call, UNAVAILABLE)
        return
    backend = pick(client, pool, call.key)
    note_choice(client, pool, backend)
    attempt = Attempt(len(client.attempts), call, backend, len(call.attempts) + 1, client.now)
    backend.outstanding += 1
    client.attempts.append(attempt)
    call.attempts.append(attempt)
    if counted:
        call.counted += 1
    call.retry_at = None
    call.hedge_at = hedge_time(client, call)


def hedge_time(client, call):
    """The time for a hedged attempt behind one that starts now, or None."""
    policy = client.policy
    if policy.hedge_delay == 0 or not call.idempotent or call.counted >= policy.max_attempts:
        return None
    return client.now + policy.hedge_delay


def end_call(client, call, status):
    call.status = status
    call.finished_at = client.now
    call.retry_at = None
    call.hedge_at = None
    for attempt in running_among(call.attempts):
        stop_attempt(attempt, CANCELLED_STATE)


def stop_attempt(attempt, state):
    attempt.state = state
    backend = attempt.backend
    backend.outstanding -= 1


def end_attempt(client, attempt, status, pushback):
    stop_attempt(attempt, FINISHED)
    attempt.status = status
    backend = attempt.backend
    if status == OK:
        backend.failures = 0
        client.tokens = min(most_tokens(client.policy), client.tokens + client.policy.refund)
        end_call(client, attempt.call, OK)
        return
    if status in (UNKNOWN, UNAVAILABLE):
        note_failure(client, backend)
    follow_failure(client, attempt.call, status, pushback)


def follow_failure(client, call, status, pushback):
    """Decides what a call does behind an attempt that ended with another status than 0."""
    if status == REFUSED and not call.transparent and client.now < call.deadline:
        call.transparent = True
        client.transparents += 1
        start_attempt(client, call, False)
        return
    if status != REFUSED and not may_repeat(client, call, status):
        end_call(client, call, status)
        return
    client.tokens = max(0, client.tokens - 1000)
    if running_among(call.attempts):
        return
    spent = call.counted >= client.policy.max_attempts
    if pushback == DONT_RETRY or spent or not budget_allows(client):
        end_call(client, call, status)
        return
    retry_later(client, call, status, pushback)


def may_repeat(client, call, status):
    return call.idempotent and status in client.policy.retryable


def retry_later(client, call, status, pushback):
    retry_at = client.now + retry_delay(client, call, pushback)
    if retry_at >= call.deadline:
        end_call(client, call, status)
        return
    call.retries += 1
    client.retries += 1
    call.retry_at = retry_at
    call.hedge_at = None


def retry_delay(client, call, pushback):
    if pushback >= 2:
        return pushback - 2
    client.seed = (1103515245 * client.seed + 12345) % 2147483648
    return client.seed % (backoff_bound(client.policy, call.retries + 1) + 1)
