"""Hedged attempts, the timers and their order."""

import unittest

from helper import (
    MISSING, add_backend, advance, ask, attempt_info, backends_of, call_info, complete, create, next_timer, run,
    start_call,
)

AT_ONCE = 2
HEDGE_AT = 6


class HedgedAttempts(unittest.TestCase):
    def test_one_behind_another_up_to_the_most_attempts(self):
        for most in range(1, 6):
            told = ask(create(max_attempts=most, hedge_delay=10), add_backend(), start_call(), advance(500),
                       call_info(0), *[attempt_info(number) for number in range(most)], attempt_info(most))
            self.assertEqual(told[3], [most - 1, 500])
            self.assertEqual(told[4], [0, 1000, most, 0, 0, 0, 0, 0])
            self.assertEqual(told[5:-1], [[0, 0, n + 1, 10 * n, 1000 - 10 * n, 0, 0] for n in range(most)])
            self.assertEqual(told[-1], MISSING)

    def test_the_time_for_the_next_one(self):
        told = ask(create(hedge_delay=10), add_backend(), advance(5), start_call(), call_info(0), advance(9),
                   call_info(0), advance(1), call_info(0), advance(10), call_info(0))
        self.assertEqual([told[place][HEDGE_AT] for place in (4, 6, 8, 10)], [16, 16, 26, 0])

    def test_none_without_a_delay(self):
        told = ask(create(hedge_delay=0), add_backend(), start_call(), call_info(0), advance(999), attempt_info(1))
        self.assertEqual(told[3:], [[0, 1000, 1, 0, 0, 0, 0, 0], [0, 999], MISSING])

    def test_none_if_the_call_is_not_idempotent(self):
        told = ask(create(hedge_delay=10), add_backend(), start_call(1000, 0), call_info(0), advance(999),
                   attempt_info(1))
        self.assertEqual(told[3:], [[0, 1000, 1, 0, 0, 0, 0, 0], [0, 999], MISSING])

    def test_the_longest_delay_and_one_behind_the_deadline(self):
        told = ask(create(hedge_delay=10000), add_backend(), start_call(20000), start_call(500), call_info(0),
                   call_info(1), next_timer(), advance(10000), attempt_info(2), attempt_info(3))
        self.assertEqual(told[4:], [
            [0, 20000, 1, 0, 0, 0, 10001, 0], [0, 500, 1, 0, 0, 0, 10001, 0], [500, 0, 1], [2, 10000],
            [0, 0, 2, 10000, 10000, 0, 0], MISSING,
        ])

    def test_they_go_to_other_backends(self):
        setup = [create(max_attempts=5, hedge_delay=10), *[add_backend()] * 3, start_call(), start_call(), advance(40)]
        self.assertEqual(backends_of(setup, range(10)), [0, 1, 2, 0, 1, 2, 0, 1, 2, 0])

    def test_they_are_no_retries(self):
        told = ask(create(hedge_delay=10), add_backend(), start_call(), advance(20), call_info(0))
        self.assertEqual(told[4], [0, 1000, 3, 0, 0, 0, 0, 0])

    def test_a_transparent_retry_sets_the_time_anew(self):
        told = ask(create(hedge_delay=10), add_backend(), start_call(), advance(4), complete(0, 100), call_info(0))
        self.assertEqual(told[5], [0, 1000, 1, 0, 1, 0, 15, 0])

    def test_a_transparent_retry_leaves_no_time_with_the_most_attempts(self):
        told = ask(create(hedge_delay=10, max_attempts=2), add_backend(), start_call(), advance(10),
                   complete(0, 100), call_info(0), advance(50), attempt_info(3))
        self.assertEqual(told[5:], [[0, 1000, 2, 0, 1, 0, 0, 0], [0, 60], MISSING])

    def test_a_retry_at_the_most_attempts_leaves_no_time(self):
        told = ask(create(hedge_delay=10, max_attempts=2), add_backend(), start_call(), complete(0, 14, AT_ONCE),
                   advance(0), call_info(0))
        self.assertEqual(told[5], [0, 1000, 2, 1, 0, 0, 0, 0])

    def test_the_last_failure_leads_to_a_retry(self):
        told = ask(create(hedge_delay=10), add_backend(), start_call(), advance(10), complete(1, 14), call_info(0),
                   complete(0, 14, 7), call_info(0))
        self.assertEqual(told[5:], [[0, 1000, 2, 0, 0, 0, 21, 0], [0], [0, 1000, 2, 1, 0, 16, 0, 0]])


class HedgedAttemptsAndBudget(unittest.TestCase):
    def setup_with(self, failures, max_tokens, refund=0):
        """A call 0 that waits for its hedged attempt at 10, and other calls that have each failed once."""
        calls = [create(hedge_delay=10, max_tokens=max_tokens, refund=refund), add_backend(), start_call()]
        for attempt in range(1, failures + 1):
            calls += [start_call(), complete(attempt, 14, 1)]
        return calls

    def test_allowed(self):
        for failures, max_tokens in ((0, 1), (1, 3), (2, 5)):
            told = ask(*self.setup_with(failures, max_tokens), advance(10), call_info(0), attempt_info(failures + 1))
            self.assertEqual(told[-3:], [[1, 10], [0, 1000, 2, 0, 0, 0, 21, 0], [0, 0, 2, 10, 990, 0, 0]])

    def test_not_allowed(self):
        for failures, max_tokens in ((1, 1), (1, 2), (2, 3), (2, 4)):
            told = ask(*self.setup_with(failures, max_tokens), advance(10), call_info(0), attempt_info(failures + 1),
                       next_timer(), advance(100), attempt_info(failures + 1))
            self.assertEqual(told[-6:], [
                [1, 10], [0, 1000, 1, 0, 0, 0, 0, 0], MISSING, [1000, 0, 0], [0, 110], MISSING,
            ])

    def test_the_time_comes_again_with_another_attempt(self):
        told = ask(*self.setup_with(1, 2), advance(15), complete(0, 100), call_info(0))
        self.assertEqual(told[-1], [0, 1000, 1, 0, 1, 0, 26, 0])

    def test_tokens_never_fall_below_none(self):
        # Two failures leave nothing of one token; then 500 thousandths are too few, and 501 are enough.
        for refund, successes, hedged in ((500, 1, False), (167, 3, True)):
            setup = self.setup_with(2, 1, refund)
            for attempt in range(3, 3 + successes):
                setup += [start_call(1000, 0), complete(attempt, 0)]
            told = ask(*setup, advance(10), attempt_info(3 + successes))
            self.assertEqual(told[-1] != MISSING, hedged)

    def test_a_retry_does_not_ask_the_budget_again(self):
        # Call 0 has its retry at 20 with two of three tokens left; call 1 fails meanwhile and leaves one.
        told = ask(create(max_tokens=3), add_backend(), start_call(), start_call(), complete(0, 14, 22),
                   complete(1, 14, 22), advance(20), attempt_info(2), call_info(0))
        self.assertEqual(told[4:], [[0], [15], [1, 20], [0, 0, 2, 20, 980, 0, 0], [0, 1000, 2, 1, 0, 0, 0, 0]])

    def test_the_budget_holds_for_hedged_attempts_of_each_call(self):
        told = ask(create(max_tokens=2, hedge_delay=10), add_backend(), *[start_call()] * 4, complete(0, 14, 1),
                   advance(10), *[call_info(number) for number in range(1, 4)], attempt_info(4))
        self.assertEqual(told[7:], [[3, 10], *[[0, 1000, 1, 0, 0, 0, 0, 0]] * 3, MISSING])

    def test_the_budget_of_the_moment_counts(self):
        told = ask(*self.setup_with(1, 2, 1), start_call(1000, 0), complete(2, 0), advance(10), attempt_info(3))
        self.assertEqual(told[-1], [0, 0, 2, 10, 990, 0, 0])


class Deadlines(unittest.TestCase):
    def test_the_call_ends_at_its_deadline(self):
        told = ask(create(), add_backend(), start_call(50), advance(49), call_info(0), advance(1), call_info(0),
                   attempt_info(0), next_timer())
        self.assertEqual(told[3:], [
            [0, 49], [0, 50, 1, 0, 0, 0, 0, 0], [1, 50], [5, 50, 1, 0, 0, 0, 0, 50], [0, 0, 1, 0, 50, 2, 0], [-33],
        ])

    def test_a_call_that_waits_for_its_retry(self):
        told = ask(create(), add_backend(), start_call(50), complete(0, 14, 50), advance(47), call_info(0),
                   advance(1), advance(2), call_info(0), attempt_info(1))
        self.assertEqual(told[4:], [
            [0, 47], [0, 50, 1, 1, 0, 49, 0, 0], [1, 48], [1, 50], [5, 50, 2, 1, 0, 0, 0, 50],
            [0, 0, 2, 48, 2, 2, 0],
        ])

    def test_a_deadline_is_no_failure_of_an_attempt(self):
        # No token is spent: of two, one would leave too few for the hedged attempt.
        told = ask(create(max_tokens=2, hedge_delay=20), add_backend(), start_call(50), start_call(10), advance(20),
                   attempt_info(2))
        self.assertEqual(told[5], [0, 0, 2, 20, 30, 0, 0])


class Order(unittest.TestCase):
    def test_the_smallest_time_first(self):
        told = ask(create(hedge_delay=30), add_backend(), start_call(20, 0), start_call(1000), start_call(1000),
                   complete(2, 14, 12), next_timer(), run(), advance(10), next_timer(), advance(10), next_timer())
        self.assertEqual([told[6], told[9], told[11]], [[10, 1, 2], [20, 0, 0], [30, 2, 1]])

    def test_at_one_time_the_smallest_kind_first(self):
        # At 30: call 0 has a hedged attempt, call 1 a retry and call 2 its deadline.
        setup = [create(hedge_delay=30), *[add_backend()] * 4, start_call(1000), start_call(1000), start_call(30, 0),
                 complete(1, 14, 32)]
        told = ask(*setup, next_timer(), complete(2, 0), next_timer(), complete(0, 0), next_timer())
        self.assertEqual([told[9], told[11]], [[30, 0, 2], [30, 1, 1]])
        told = ask(*setup, complete(2, 0), advance(30), attempt_info(3), attempt_info(4))
        self.assertEqual(told[-3:], [[2, 30], [1, 3, 2, 30, 970, 0, 0], [0, 1, 2, 30, 970, 0, 0]])

    def test_the_kind_comes_before_the_call(self):
        told = ask(create(hedge_delay=30), add_backend(), start_call(1000), start_call(30), next_timer(), advance(29),
                   complete(1, 0), next_timer())
        self.assertEqual([told[4], told[7]], [[30, 0, 1], [30, 2, 0]])

    def test_at_one_time_and_of_one_kind_the_smallest_call_first(self):
        # Call 1 has its retry time before call 0 has it.
        told = ask(create(), add_backend(), *[start_call()] * 3, complete(1, 14, 12), complete(0, 14, 12),
                   complete(2, 14, 12), next_timer(), advance(10), *[attempt_info(number) for number in (3, 4, 5)])
        self.assertEqual(told[8:10], [[10, 1, 0], [3, 10]])
        self.assertEqual([answer[0] for answer in told[10:]], [0, 1, 2])

    def test_hedged_attempts_and_deadlines_of_one_time_by_the_call(self):
        told = ask(create(hedge_delay=10), add_backend(), start_call(), start_call(), advance(10), attempt_info(2),
                   attempt_info(3))
        self.assertEqual([answer[0] for answer in told[5:]], [0, 1])
        told = ask(create(), add_backend(), start_call(40), start_call(40), next_timer(), complete(0, 0), next_timer())
        self.assertEqual([told[4], told[6]], [[40, 0, 0], [40, 0, 1]])

    def test_a_deadline_comes_before_a_hedged_attempt_of_the_same_call(self):
        told = ask(create(hedge_delay=10), add_backend(), start_call(10), next_timer(), advance(10), attempt_info(1),
                   call_info(0))
        self.assertEqual(told[3:], [[10, 0, 0], [1, 10], MISSING, [5, 10, 1, 0, 0, 0, 0, 10]])

    def test_a_deadline_frees_its_backend_before_a_retry_of_the_same_time(self):
        # Call 2 has used both backends and has its retry at 20. Each backend has one other attempt until then;
        # that on 1 is cancelled at 20, so 1 has the fewest.
        setup = [create(balancer=2), add_backend(), add_backend(), start_call(30), start_call(20), start_call(),
                 complete(2, 14, AT_ONCE), advance(0), complete(3, 14, 22), advance(20)]
        self.assertEqual(backends_of(setup, range(5)), [0, 1, 0, 1, 1])

    def test_timers_that_come_up_while_others_fire(self):
        # The retry at 10 sets a hedged attempt for 20, and that one for 30; both fire within the same advance.
        told = ask(create(hedge_delay=10, max_attempts=4), add_backend(), start_call(), complete(0, 14, 12),
                   advance(30), *[attempt_info(number) for number in range(1, 4)])
        self.assertEqual(told[4], [3, 30])
        self.assertEqual([answer[3] for answer in told[5:]], [10, 20, 30])

    def test_timers_behind_the_end_stay(self):
        told = ask(create(hedge_delay=10), add_backend(), start_call(), advance(19), attempt_info(2), advance(1),
                   attempt_info(2))
        self.assertEqual(told[3:], [[1, 19], MISSING, [1, 20], [0, 0, 3, 20, 980, 0, 0]])


class RunAndTimers(unittest.TestCase):
    def test_a_retry_fires_when_no_attempt_runs(self):
        told = ask(create(), add_backend(), start_call(50), complete(0, 14, 22), run(0), run(0), call_info(0), run(0))
        self.assertEqual(told[4:], [[1, 20], [0, 20], [1, 50, 2, 1, 0, 0, 0, 20], [0, 20]])

    def test_the_clock_does_not_advance_while_attempts_run(self):
        told = ask(create(hedge_delay=10), add_backend(), start_call(), start_call(), complete(0, 14, 5), run(3),
                   run(3))
        self.assertEqual(told[5:], [[0, 0], [1, 3]])


if __name__ == "__main__":
    unittest.main()
