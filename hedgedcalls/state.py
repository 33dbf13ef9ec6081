"""What a client holds: its backends, its calls and their attempts."""

from hedgedcalls.policy import most_tokens

RUNNING = 0
FINISHED = 1
CANCELLED_STATE = 2


class Backend:
    """A backend, active or removed; ejected_until is None as long as it was never ejected."""

    def __init__(self, number, weight):
        self.number = number
        self.weight = weight
        self.active = True
        self.current = 0
        self.outstanding = 0
        self.failures = 0
        self.ejections = 0
        self.ejected_until = None


class Call:
    """A client's call; its status is None as long as it is open."""

    def __init__(self, number, deadline, idempotent, key):
        self.number = number
        self.deadline = deadline
        self.idempotent = idempotent
        self.key = key
        self.status = None
        self.counted = 0
        self.retries = 0
        self.transparent = False
        self.retry_at = None
        self.hedge_at = None
        self.finished_at = 0
        self.attempts = []


class Attempt:
    """One try of a call on a backend; its place counts from 1 within the call."""

    def __init__(self, number, call, backend, place, started_at):
        self.number = number
        self.call = call
        self.backend = backend
        self.place = place
        self.started_at = started_at
        self.state = RUNNING
        self.status = 0


class Client:
    def __init__(self, seed, balancer, policy):
        self.seed = seed
        self.balancer = balancer
        self.policy = policy
        self.now = 0
        self.tokens = most_tokens(policy)
        self.pointer = 0
        self.backends = []
        self.calls = []
        self.attempts = []
        self.retries = 0
        self.hedges = 0
        self.transparents = 0


def active_backends(client):
    return [backend for backend in client.backends if backend.active]


def running_among(attempts):
    return [attempt for attempt in attempts if attempt.state == RUNNING]
