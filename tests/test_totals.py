"""totals behind successes, failures, cancellations, retries, hedged attempts and transparent retries."""

import unittest

from hedgedcalls.clients import Session, answer_call
from helper import (
    add_backend, advance, cancel, complete, create, last, remove_backend, run, start_call, totals,
)

AT_ONCE = 2
CALLS, OK, FAILED, ATTEMPTS, RETRIES, HEDGES, TRANSPARENT = range(7)


class Totals(unittest.TestCase):
    def totals(self, *calls):
        return last(*calls, totals())

    def counted(self, *calls):
        return self.totals(*calls)[RETRIES:]

    def test_none_at_first(self):
        self.assertEqual(self.totals(create()), [0] * 7)
        self.assertEqual(self.totals(create(), add_backend(), advance(9), run(0)), [0] * 7)

    def test_calls_by_how_they_ended(self):
        setup = [create(), add_backend(), *[start_call(1000, 0)] * 4]
        self.assertEqual(self.totals(*setup), [4, 0, 0, 4, 0, 0, 0])
        self.assertEqual(self.totals(*setup, complete(1, 0)), [4, 1, 0, 4, 0, 0, 0])
        self.assertEqual(self.totals(*setup, complete(1, 0), complete(3, 0)), [4, 2, 0, 4, 0, 0, 0])
        self.assertEqual(self.totals(*setup, complete(0, 5)), [4, 0, 1, 4, 0, 0, 0])
        self.assertEqual(self.totals(*setup, complete(0, 5), complete(1, 16), complete(2, 0)), [4, 1, 2, 4, 0, 0, 0])
        self.assertEqual(self.totals(*setup, cancel(2)), [4, 0, 1, 4, 0, 0, 0])
        self.assertEqual(self.totals(*setup, remove_backend(0)), [4, 0, 4, 4, 0, 0, 0])
        self.assertEqual(self.totals(*setup, complete(0, 0), advance(1000)), [4, 1, 3, 4, 0, 0, 0])

    def test_a_call_that_ends_as_refused_has_failed(self):
        self.assertEqual(self.totals(create(), add_backend(), start_call(), complete(0, 100), complete(1, 100, 1)),
                         [1, 0, 1, 2, 0, 0, 1])

    def test_retries_count_as_soon_as_they_have_a_time(self):
        setup = [create(), add_backend(), start_call(), start_call(), complete(0, 14), complete(1, 14)]
        self.assertEqual(self.totals(*setup), [2, 0, 0, 2, 2, 0, 0])
        self.assertEqual(self.totals(*setup, advance(500)), [2, 0, 0, 4, 2, 0, 0])
        self.assertEqual(self.totals(*setup, advance(500), run(14, 13)), [2, 0, 1, 4, 3, 0, 0])
        self.assertEqual(self.totals(*setup, cancel(0), cancel(1)), [2, 0, 2, 2, 2, 0, 0])

    def test_a_retry_that_is_not_allowed_does_not_count(self):
        for policy, pushback in (({"max_attempts": 1}, 0), ({"max_tokens": 1}, 0), ({}, 1), ({}, 1002)):
            setup = [create(**policy), add_backend(), start_call(1000), complete(0, 14, pushback)]
            self.assertEqual(self.totals(*setup), [1, 0, 1, 1, 0, 0, 0])
        setup = [create(), add_backend(), start_call(1000), complete(0, 14, 1001)]
        self.assertEqual(self.totals(*setup), [1, 0, 0, 1, 1, 0, 0])

    def test_hedged_attempts(self):
        setup = [create(hedge_delay=10, max_tokens=2), add_backend(), start_call(), start_call()]
        self.assertEqual(self.totals(*setup, advance(9)), [2, 0, 0, 2, 0, 0, 0])
        self.assertEqual(self.totals(*setup, advance(10)), [2, 0, 0, 4, 0, 2, 0])
        self.assertEqual(self.totals(*setup, advance(20)), [2, 0, 0, 6, 0, 4, 0])
        self.assertEqual(self.totals(*setup, advance(20), complete(3, 0)), [2, 1, 0, 6, 0, 4, 0])
        # The budget no longer allows those at 20.
        self.assertEqual(self.totals(*setup, advance(10), complete(0, 14), advance(10)), [2, 0, 0, 4, 0, 2, 0])

    def test_transparent_retries(self):
        setup = [create(), add_backend(), start_call(), start_call(1000, 0), complete(0, 100), complete(1, 100)]
        self.assertEqual(self.totals(*setup), [2, 0, 0, 4, 0, 0, 2])
        self.assertEqual(self.totals(*setup, complete(2, 100)), [2, 0, 0, 4, 1, 0, 2])

    def test_all_at_once(self):
        # Attempt 1 is the transparent retry, 2 the hedged one, 3 the retry.
        setup = [create(hedge_delay=10), add_backend(), start_call(), complete(0, 100), advance(10), complete(1, 14),
                 complete(2, 14, AT_ONCE), advance(0)]
        self.assertEqual(self.totals(*setup), [1, 0, 0, 4, 1, 1, 1])
        self.assertEqual(self.totals(*setup, complete(3, 0)), [1, 1, 0, 4, 1, 1, 1])

    def test_a_new_client_counts_anew(self):
        self.assertEqual(self.totals(create(), add_backend(), start_call(), complete(0, 14), create()), [0] * 7)


class WithoutAnActiveBackend(unittest.TestCase):
    def test_a_call(self):
        self.assertEqual(last(create(), start_call(), totals()), [1, 0, 1, 0, 0, 0, 0])

    def test_a_retry(self):
        setup = [create(), add_backend(), start_call(), complete(0, 14, AT_ONCE), remove_backend(0)]
        self.assertEqual(last(*setup, totals()), [1, 0, 0, 1, 1, 0, 0])
        self.assertEqual(last(*setup, advance(0), totals()), [1, 0, 1, 1, 1, 0, 0])

    def test_retries_of_the_attempts_that_end_as_their_backend_is_removed(self):
        setup = [create(), add_backend(), start_call(), start_call(1000, 0), remove_backend(0)]
        self.assertEqual(last(*setup, totals()), [2, 0, 1, 2, 1, 0, 0])
        self.assertEqual(last(*setup, advance(500), totals()), [2, 0, 2, 2, 1, 0, 0])

    def totals_without_backends(self, setup, *calls):
        """No calls lead to running attempts without an active backend, so the backends are put aside here."""
        session = Session()
        for call in setup:
            answer_call(session, call[0], call[2:-1])
        for backend in session.client.backends:
            backend.active = False
        return [answer_call(session, call[0], call[2:-1]) for call in (*calls, totals())][-1]

    def test_a_hedged_attempt(self):
        setup = [create(hedge_delay=10), add_backend(), start_call()]
        self.assertEqual(self.totals_without_backends(setup, advance(10)), [1, 0, 1, 1, 0, 1, 0])

    def test_a_transparent_retry(self):
        setup = [create(), add_backend(), start_call()]
        self.assertEqual(self.totals_without_backends(setup, complete(0, 100)), [1, 0, 1, 1, 0, 0, 1])


if __name__ == "__main__":
    unittest.main()
