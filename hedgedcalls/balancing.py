"""How a backend is chosen for an attempt, and how failing backends are ejected."""

from hedgedcalls.state import active_backends

ROUND_ROBIN = 0
WEIGHTED = 1
LEAST_OUTSTANDING = 2


def is_ejected(client, backend):
    return backend.ejected_until is not None and client.now < backend.ejected_until


def is_available(client, backend):
    return backend.active and not is_ejected(client, backend)


def available_backends(client):
    return [backend for backend in client.backends if is_available(client, backend)]


def candidates(client, used):
    """The backends to choose from, in increasing order; used: the numbers of those the call has had."""
    pool = available_backends(client)
    if not pool:
        pool = active_backends(client)
    fresh = [backend for backend in pool if backend.number not in used]
    if fresh:
        return fresh
    return pool


def pick(client, pool, key):
    """The balancer's choice out of a pool in increasing order, so the first of several equals is the smallest."""
    if client.balancer == ROUND_ROBIN:
        ahead = [backend for backend in pool if backend.number >= client.pointer]
        return ahead[0] if ahead else pool[0]
    if client.balancer == WEIGHTED:
        return max(pool, key=lambda backend: backend.current + backend.weight)
    if client.balancer == LEAST_OUTSTANDING:
        return min(pool, key=lambda backend: backend.outstanding)
    return max(pool, key=lambda backend: key_hash(key, backend.number))


def note_choice(client, pool, chosen):
    """Moves on what the balancer remembers of its choices."""
    if client.balancer == ROUND_ROBIN:
        client.pointer = chosen.number + 1
    if client.balancer == WEIGHTED:
        for backend in pool:
            backend.current += backend.weight
        chosen.current -= sum([backend.weight for backend in pool])


def key_hash(key, number):
    """FNV-1a with 32 bits over the four lowest bytes of the key and the number of a backend."""
    value = 2166136261
    rest = key
    for step in range(4):
        value = mixed(value, rest & 255)
        rest = rest >> 8
    return mixed(value, number)


def mixed(value, byte):
    return ((value ^ byte) * 16777619) % 4294967296


def note_failure(client, backend):
    backend.failures += 1
    threshold = client.policy.threshold
    if threshold == 0 or backend.failures < threshold:
        return
    if is_available(client, backend) and room_for_ejection(client):
        eject(client, backend)


def room_for_ejection(client):
    active = active_backends(client)
    ejected = [backend for backend in active if is_ejected(client, backend)]
    return len(ejected) < len(active) * client.policy.ejection_percent // 100


def eject(client, backend):
    backend.ejections += 1
    backend.ejected_until = client.now + client.policy.ejection_time * backend.ejections
    backend.failures = 0
