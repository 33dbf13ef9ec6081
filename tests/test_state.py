"""What a client holds that no call of answers tells yet: its counters, and removed backends."""

import unittest

from hedgedcalls.clients import Session, answer_call
from helper import (
    add_backend, advance, cancel, complete, create, remove_backend, run, start_call,
)


def client_after(*calls):
    session = Session()
    for call in calls:
        answer_call(session, call[0], call[2:-1])
    return session.client


class Counters(unittest.TestCase):
    def counted(self, *calls):
        client = client_after(*calls)
        return client.retries, client.hedges, client.transparents

    def test_none_at_first(self):
        self.assertEqual(self.counted(create()), (0, 0, 0))
        self.assertEqual(self.counted(create(), add_backend(), start_call(), complete(0, 0)), (0, 0, 0))

    def test_retries_count_as_soon_as_they_have_a_time(self):
        setup = [create(), add_backend(), start_call(), start_call(), complete(0, 14), complete(1, 14)]
        self.assertEqual(self.counted(*setup), (2, 0, 0))
        self.assertEqual(self.counted(*setup, advance(500)), (2, 0, 0))
        self.assertEqual(self.counted(*setup, advance(500), run(14, 13)), (3, 0, 0))
        self.assertEqual(self.counted(*setup, cancel(0), cancel(1)), (2, 0, 0))

    def test_hedged_attempts(self):
        setup = [create(hedge_delay=10, max_tokens=2), add_backend(), start_call(), start_call()]
        self.assertEqual(self.counted(*setup, advance(9)), (0, 0, 0))
        self.assertEqual(self.counted(*setup, advance(10)), (0, 2, 0))
        self.assertEqual(self.counted(*setup, advance(20)), (0, 4, 0))
        self.assertEqual(self.counted(*setup, advance(10), complete(0, 14), advance(10)), (0, 2, 0))

    def test_transparent_retries(self):
        setup = [create(), add_backend(), start_call(), start_call(), complete(0, 100), complete(1, 100)]
        self.assertEqual(self.counted(*setup), (0, 0, 2))
        self.assertEqual(self.counted(*setup, complete(2, 100)), (1, 0, 2))


class RemovedBackends(unittest.TestCase):
    def test_the_failures_of_a_removed_backend_count_but_do_not_eject_it(self):
        client = client_after(create(threshold=1), add_backend(), add_backend(), *[start_call()] * 3,
                              remove_backend(0))
        removed = client.backends[0]
        self.assertEqual((removed.failures, removed.ejections, removed.ejected_until, removed.outstanding),
                         (2, 0, 0, 0))


class Outstanding(unittest.TestCase):
    def test_they_are_the_running_attempts(self):
        setup = [create(hedge_delay=10), add_backend(), add_backend(), start_call(), start_call()]
        for calls, outstanding in (
            ([], [1, 1]),
            ([advance(10)], [2, 2]),
            ([advance(20)], [3, 3]),
            ([advance(10), complete(0, 14)], [1, 2]),
            ([advance(10), complete(0, 0)], [1, 1]),
            ([advance(10), cancel(1)], [1, 1]),
            ([advance(10), complete(0, 100)], [1, 3]),
            ([advance(1000)], [0, 0]),
        ):
            client = client_after(*setup, *calls)
            self.assertEqual([backend.outstanding for backend in client.backends], outstanding)


if __name__ == "__main__":
    unittest.main()
