"""What follows the end of an attempt: success, transparent retries, ends of calls, retries and their delays."""

import unittest

from helper import (
    MISSING, add_backend, advance, ask, attempt_info, call_info, complete, create, last, next_seed, next_timer, run,
    start_call,
)

AT_ONCE = 2
DONT_RETRY = 1
STATUS, DEADLINE, COUNTED, RETRIES, TRANSPARENT, RETRY_AT, HEDGE_AT, FINISHED_AT = range(8)


class Success(unittest.TestCase):
    def test_the_call_ends_with_ok(self):
        told = ask(create(), add_backend(), start_call(), advance(6), complete(0, 0), call_info(0), attempt_info(0),
                   next_timer())
        self.assertEqual(told[4:], [[1], [1, 1000, 1, 0, 0, 0, 0, 6], [0, 0, 1, 0, 1000, 1, 0], [-33]])

    def test_the_other_attempts_are_cancelled(self):
        told = ask(create(hedge_delay=10), add_backend(), start_call(), advance(20), complete(1, 0),
                   *[attempt_info(number) for number in range(3)], call_info(0))
        self.assertEqual([answer[5:] for answer in told[5:8]], [[2, 0], [1, 0], [2, 0]])
        self.assertEqual(told[8], [1, 1000, 3, 0, 0, 0, 0, 20])

    def test_the_pushback_does_not_matter(self):
        for pushback in (0, 1, 2, 100002):
            self.assertEqual(last(create(), add_backend(), start_call(), complete(0, 0, pushback)), [1])

    def test_the_seed_stays(self):
        setup = [create(seed=1), add_backend(), start_call(), complete(0, 0), start_call(), complete(1, 14)]
        self.assertEqual(last(*setup, next_timer()), [75, 1, 1])


class TransparentRetry(unittest.TestCase):
    def test_an_attempt_starts_at_once_and_is_not_counted(self):
        for idempotent in (0, 1):
            told = ask(create(), add_backend(), add_backend(), start_call(1000, idempotent), advance(5),
                       complete(0, 100), attempt_info(0), attempt_info(1), call_info(0))
            self.assertEqual(told[5:], [
                [0], [0, 0, 1, 0, 1000, 1, 100], [0, 1, 2, 5, 995, 0, 0], [0, 1000, 1, 0, 1, 0, 0, 0],
            ])

    def test_the_pushback_does_not_matter(self):
        for pushback in (0, 1, 2, 500):
            told = ask(create(), add_backend(), start_call(), complete(0, 100, pushback), attempt_info(1))
            self.assertEqual(told[3:], [[0], [0, 0, 2, 0, 1000, 0, 0]])

    def test_only_the_first_refusal_of_a_call_has_one(self):
        told = ask(create(seed=1), add_backend(), start_call(), start_call(), complete(0, 100), complete(2, 100),
                   call_info(0), attempt_info(3), complete(1, 100), attempt_info(3))
        self.assertEqual(told[5:], [
            [0], [0, 1000, 1, 1, 1, 76, 0, 0], MISSING, [0], [1, 0, 2, 0, 1000, 0, 0],
        ])

    def test_it_has_no_need_of_attempts_left_or_of_the_budget(self):
        told = ask(create(max_attempts=1, max_tokens=1), add_backend(), start_call(), complete(0, 14), start_call(),
                   complete(1, 100), attempt_info(2), call_info(1))
        self.assertEqual(told[3:], [
            [15], [1, 0], [0], [1, 0, 2, 0, 1000, 0, 0], [0, 1000, 1, 0, 1, 0, 0, 0],
        ])

    def test_it_costs_no_token(self):
        # Of 3 tokens, one may be spent: a second one would leave too few.
        told = ask(create(max_tokens=3), add_backend(), start_call(), complete(0, 100), complete(1, 14))
        self.assertEqual(told[3:], [[0], [0]])

    def test_it_starts_beside_other_running_attempts(self):
        told = ask(create(hedge_delay=10, max_attempts=2), add_backend(), start_call(), advance(10),
                   complete(0, 100), attempt_info(1), attempt_info(2), call_info(0))
        self.assertEqual(told[4:], [
            [0], [0, 0, 2, 10, 990, 0, 0], [0, 0, 3, 10, 990, 0, 0], [0, 1000, 2, 0, 1, 0, 0, 0],
        ])

    def test_it_counts_as_used_backend(self):
        told = ask(create(), *[add_backend()] * 3, start_call(), complete(0, 100), complete(1, 14, AT_ONCE),
                   advance(0), *[attempt_info(number) for number in range(3)])
        self.assertEqual([answer[1] for answer in told[-3:]], [0, 1, 2])


class EndWithTheStatus(unittest.TestCase):
    def test_a_call_that_is_not_idempotent(self):
        for status in [*range(1, 17)]:
            told = ask(create(retryable=range(1, 17)), add_backend(), start_call(1000, 0), advance(4),
                       complete(0, status, AT_ONCE), call_info(0))
            self.assertEqual(told[4:], [[status + 1], [status + 1, 1000, 1, 0, 0, 0, 0, 4]])

    def test_a_status_that_is_not_retryable(self):
        for status in range(1, 17):
            others = [other for other in range(1, 17) if other != status]
            told = ask(create(retryable=others), add_backend(), start_call(), complete(0, status, AT_ONCE))
            self.assertEqual(told[3], [status + 1])
            told = ask(create(retryable=(status,)), add_backend(), start_call(), complete(0, status, AT_ONCE))
            self.assertEqual(told[3], [0])

    def test_no_status_is_retryable(self):
        self.assertEqual(last(create(retryable=()), add_backend(), start_call(), complete(0, 14, AT_ONCE)), [15])

    def test_the_refund_is_no_retryable_status(self):
        setup = [create(retryable=(), refund=14), add_backend(), start_call()]
        self.assertEqual(last(*setup, complete(0, 14, AT_ONCE)), [15])

    def test_the_last_of_sixteen_statuses_is_retryable(self):
        retryable = [1] * 15 + [14]
        self.assertEqual(last(create(retryable=retryable), add_backend(), start_call(), complete(0, 14)), [0])

    def test_the_other_attempts_are_cancelled(self):
        told = ask(create(hedge_delay=10), add_backend(), start_call(), advance(15), complete(1, 3), attempt_info(0),
                   attempt_info(1), call_info(0), next_timer())
        self.assertEqual(told[4:], [
            [4], [0, 0, 1, 0, 1000, 2, 0], [0, 0, 2, 10, 990, 1, 3], [4, 1000, 2, 0, 0, 0, 0, 15], [-33],
        ])

    def test_a_second_refusal_does_not_end_it(self):
        for idempotent in (0, 1):
            told = ask(create(retryable=()), add_backend(), start_call(1000, idempotent), complete(0, 100),
                       complete(1, 100, 12), call_info(0))
            self.assertEqual(told[3:], [[0], [0], [0, 1000, 1, 1, 1, 11, 0, 0]])

    def test_it_costs_no_token(self):
        setup = [create(max_tokens=3), add_backend(), start_call(), complete(0, 13), start_call(1000, 0),
                 complete(1, 14), start_call()]
        self.assertEqual(last(*setup, complete(2, 14)), [0])


class OtherRunningAttempts(unittest.TestCase):
    def test_nothing_else_happens(self):
        for pushback in (0, 1, 2, 5000):
            told = ask(create(hedge_delay=10, max_attempts=2), add_backend(), start_call(), advance(12),
                       complete(0, 14, pushback), call_info(0), attempt_info(1), next_timer())
            self.assertEqual(told[4:], [
                [0], [0, 1000, 2, 0, 0, 0, 0, 0], [0, 0, 2, 10, 990, 0, 0], [1000, 0, 0],
            ])

    def test_the_time_for_a_hedged_attempt_stays(self):
        told = ask(create(hedge_delay=10), add_backend(), start_call(), advance(12), complete(1, 14), call_info(0))
        self.assertEqual(told[5], [0, 1000, 2, 0, 0, 0, 21, 0])

    def test_the_seed_stays(self):
        told = ask(create(seed=1, hedge_delay=10), add_backend(), start_call(), advance(10), complete(0, 14),
                   complete(1, 14), call_info(0))
        self.assertEqual(told[6], [0, 1000, 2, 1, 0, 86, 0, 0])

    def test_it_costs_a_token(self):
        # Of 3 tokens, the first failure leaves enough and the second too few.
        told = ask(create(max_tokens=3, hedge_delay=10), add_backend(), start_call(), advance(10), complete(0, 14),
                   complete(1, 14))
        self.assertEqual(told[4:], [[0], [15]])

    def test_a_second_refusal_waits_for_the_others_too(self):
        told = ask(create(hedge_delay=10), add_backend(), start_call(), advance(10), complete(0, 100),
                   complete(1, 100, DONT_RETRY), complete(2, 100, DONT_RETRY))
        self.assertEqual(told[4:], [[0], [0], [101]])


class NoMoreRetries(unittest.TestCase):
    def test_pushback_says_so(self):
        told = ask(create(), add_backend(), start_call(), complete(0, 14, DONT_RETRY), call_info(0))
        self.assertEqual(told[3:], [[15], [15, 1000, 1, 0, 0, 0, 0, 0]])

    def test_as_many_attempts_as_allowed(self):
        for most in range(1, 6):
            setup = [create(max_attempts=most), add_backend(), start_call()]
            for attempt in range(most - 1):
                setup += [complete(attempt, 14, AT_ONCE), advance(0)]
            told = ask(*setup, complete(most - 1, 14, AT_ONCE), call_info(0), attempt_info(most))
            self.assertEqual(told[-3:], [[15], [15, 1000, most, most - 1, 0, 0, 0, 0], MISSING])
            self.assertEqual([answer for answer in told[3:-3:2]], [[0]] * (most - 1))

    def test_a_transparent_retry_is_one_more(self):
        setup = [create(max_attempts=2), add_backend(), start_call(), complete(0, 100), complete(1, 14, AT_ONCE),
                 advance(0), complete(2, 14, AT_ONCE), call_info(0)]
        self.assertEqual(ask(*setup)[4:], [[0], [1, 0], [15], [15, 1000, 2, 1, 1, 0, 0, 0]])

    def test_hedged_attempts_count(self):
        told = ask(create(max_attempts=2, hedge_delay=10), add_backend(), start_call(), advance(10), complete(0, 14),
                   complete(1, 14, AT_ONCE), call_info(0))
        self.assertEqual(told[4:], [[0], [15], [15, 1000, 2, 0, 0, 0, 0, 10]])

    def test_the_seed_stays(self):
        setup = [create(seed=1), add_backend(), start_call(), complete(0, 14, DONT_RETRY), start_call(),
                 complete(1, 14)]
        self.assertEqual(last(*setup, next_timer()), [75, 1, 1])


class Budget(unittest.TestCase):
    def failures(self, *statuses, **policy):
        """The answers of calls that each end their first attempt with one of the statuses."""
        setup = [create(max_backoff=0, **policy), add_backend()]
        for attempt, status in enumerate(statuses):
            setup += [start_call(), complete(attempt, status)]
        return [answer[0] for answer in ask(*setup)[3::2]]

    def test_none(self):
        self.assertEqual(self.failures(*[14] * 28, max_tokens=0, refund=1000), [0] * 28)

    def test_more_than_half_must_be_left(self):
        self.assertEqual(self.failures(14, max_tokens=1), [15])
        self.assertEqual(self.failures(14, 14, max_tokens=2), [15, 15])
        self.assertEqual(self.failures(14, 14, max_tokens=3), [0, 15])
        self.assertEqual(self.failures(14, 14, 14, max_tokens=4), [0, 15, 15])
        self.assertEqual(self.failures(14, 14, 14, max_tokens=5), [0, 0, 15])
        self.assertEqual(self.failures(*[14] * 25, max_tokens=50), [0] * 24 + [15])

    def test_a_thousandth_at_the_border(self):
        self.assertEqual(self.failures(14, 0, 14, max_tokens=4, refund=0), [0, 1, 15])
        self.assertEqual(self.failures(14, 0, 14, max_tokens=4, refund=1), [0, 1, 0])

    def test_refunds_add_up(self):
        self.assertEqual(self.failures(14, 14, 14, 0, 0, 14, max_tokens=5, refund=499), [0, 0, 15, 1, 1, 15])
        self.assertEqual(self.failures(14, 14, 14, 0, 0, 0, 14, max_tokens=5, refund=501), [0, 0, 15, 1, 1, 1, 0])

    def test_never_less_than_none(self):
        self.assertEqual(self.failures(*[14] * 6, 0, 0, 0, 14, max_tokens=3, refund=1000),
                         [0, 15, 15, 15, 15, 15, 1, 1, 1, 0])

    def test_never_more_than_the_maximum(self):
        self.assertEqual(self.failures(0, 0, 0, 14, 14, max_tokens=3, refund=1000), [1, 1, 1, 0, 15])
        self.assertEqual(self.failures(14, 0, 0, 14, 14, max_tokens=3, refund=999), [0, 1, 1, 0, 15])

    def test_a_second_refusal_costs_a_token(self):
        told = ask(create(max_tokens=3, max_backoff=0), add_backend(), start_call(1000, 0), complete(0, 100),
                   complete(1, 100), advance(0), complete(2, 100), call_info(0))
        self.assertEqual(told[3:], [[0], [0], [1, 0], [101], [101, 1000, 2, 1, 1, 0, 0, 0]])

    def test_a_new_client_has_all_its_tokens(self):
        told = ask(create(max_tokens=1000, refund=0), add_backend(), start_call(), complete(0, 14),
                   create(max_tokens=3), add_backend(), start_call(), complete(0, 14))
        self.assertEqual([told[3], told[7]], [[0], [0]])


class Delay(unittest.TestCase):
    def delays(self, seed, retries, **policy):
        """The delays of the retries of one call, one behind another."""
        calls = [create(seed=seed, max_attempts=5, **policy), add_backend(), start_call(100000)]
        for attempt in range(retries):
            # No attempt runs behind complete, so the last run uses up its status to fire the timer of the retry.
            calls += [complete(attempt, 14), run(), next_timer(), run(14)]
        told = ask(*calls)
        return [told[place + 2][0] - told[place + 1][1] for place in range(3, len(told), 4)]

    def expected(self, seed, bounds):
        delays = []
        for bound in bounds:
            seed = next_seed(seed)
            delays.append(seed % (bound + 1))
        return delays

    def check(self, bounds, **policy):
        for seed in (0, 1, 2, 12345, 2147483646, 2147483647):
            with self.subTest(seed=seed):
                self.assertEqual(self.delays(seed, 4, **policy), self.expected(seed, bounds))

    def test_the_bound_grows_by_the_multiplier(self):
        self.check([100, 200, 400, 800], initial_backoff=100, multiplier=200, max_backoff=100000)
        self.check([10, 100, 1000, 10000], initial_backoff=10, multiplier=1000, max_backoff=100000)

    def test_the_bound_stays_with_a_multiplier_of_a_hundred(self):
        self.check([70] * 4, initial_backoff=70, multiplier=100, max_backoff=100000)

    def test_the_bound_is_limited(self):
        self.check([100, 200, 250, 250], initial_backoff=100, multiplier=200, max_backoff=250)
        self.check([99] * 4, initial_backoff=100, multiplier=200, max_backoff=99)

    def test_the_bound_is_rounded_down_once(self):
        # 1, 1.5, 2.25, 3.375; and 7, 9.45, 12.7575, 17.222625.
        self.check([1, 1, 2, 3], initial_backoff=1, multiplier=150, max_backoff=100000)
        self.check([7, 9, 12, 17], initial_backoff=7, multiplier=135, max_backoff=100000)

    def test_no_backoff(self):
        self.check([0] * 4, initial_backoff=0, multiplier=1000, max_backoff=100000)
        self.check([0] * 4, initial_backoff=10000, multiplier=1000, max_backoff=0)

    def test_the_greatest_backoff(self):
        told = ask(create(seed=5, initial_backoff=10000, max_backoff=100000, multiplier=1000), add_backend(),
                   start_call(100000), complete(0, 14), call_info(0))
        self.assertEqual(told[4][RETRY_AT], next_seed(5) % 10001 + 1)

    def test_the_seed_goes_on_from_call_to_call(self):
        told = ask(create(seed=1), add_backend(), start_call(), start_call(), complete(1, 14), complete(0, 14),
                   call_info(0), call_info(1))
        self.assertEqual([told[7][RETRY_AT] - 1, told[6][RETRY_AT] - 1], self.expected(1, [100, 100]))

    def test_each_call_counts_its_own_retries(self):
        told = ask(create(seed=1), add_backend(), start_call(), complete(0, 14, AT_ONCE), advance(0),
                   start_call(), complete(2, 14), call_info(1), complete(1, 14), call_info(0))
        self.assertEqual([told[7][RETRY_AT] - 1, told[9][RETRY_AT] - 1], self.expected(1, [100, 200]))

    def test_a_hedged_attempt_is_no_retry(self):
        told = ask(create(seed=1, hedge_delay=10, initial_backoff=10000, max_backoff=100000), add_backend(),
                   start_call(100000), advance(10), complete(0, 14), complete(1, 14), call_info(0))
        self.assertEqual(told[6][RETRIES], 1)
        self.assertEqual(told[6][RETRY_AT], 10 + self.expected(1, [10000])[0] + 1)

    def test_pushback_is_the_delay(self):
        for pushback, delay in ((2, 0), (3, 1), (52, 50), (1001, 999)):
            told = ask(create(), add_backend(), advance(7), start_call(), complete(0, 14, pushback), call_info(0))
            self.assertEqual(told[4:], [[0], [0, 1007, 1, 1, 0, 7 + delay + 1, 0, 0]])

    def test_pushback_may_be_longer_than_the_greatest_backoff(self):
        told = ask(create(max_backoff=10), add_backend(), start_call(100000), complete(0, 14, 50002), call_info(0))
        self.assertEqual(told[4][RETRY_AT], 50001)

    def test_pushback_leaves_the_seed(self):
        told = ask(create(seed=1), add_backend(), start_call(), complete(0, 14, 500), start_call(), complete(1, 14),
                   call_info(1))
        self.assertEqual(told[6][RETRY_AT], 76)


class RetryTime(unittest.TestCase):
    def test_not_at_or_behind_the_deadline(self):
        told = ask(create(), add_backend(), advance(3), start_call(50), start_call(50), start_call(50),
                   complete(0, 14, 51), complete(1, 14, 52), complete(2, 14, 53), *[call_info(n) for n in range(3)])
        self.assertEqual(told[6:], [
            [0], [15], [15], [0, 53, 1, 1, 0, 53, 0, 0], [15, 53, 1, 0, 0, 0, 0, 3], [15, 53, 1, 0, 0, 0, 0, 3],
        ])

    def test_the_greatest_pushback_is_behind_every_deadline(self):
        told = ask(create(), add_backend(), start_call(100000), start_call(100000), complete(0, 14, 100001),
                   complete(1, 14, 100002), call_info(0))
        self.assertEqual(told[4:], [[0], [15], [0, 100000, 1, 1, 0, 100000, 0, 0]])

    def test_a_random_delay_behind_the_deadline_has_moved_the_seed(self):
        # 75 is too late for the first call; the second has the delay of the next seed.
        told = ask(create(seed=1), add_backend(), start_call(75), complete(0, 14), start_call(), complete(1, 14),
                   call_info(1))
        self.assertEqual(told[3], [15])
        self.assertEqual(told[6][RETRY_AT], next_seed(next_seed(1)) % 101 + 1)
        self.assertEqual(last(create(seed=1), add_backend(), start_call(76), complete(0, 14)), [0])

    def test_the_time_for_a_hedged_attempt_is_removed(self):
        told = ask(create(hedge_delay=10), add_backend(), start_call(), call_info(0), complete(0, 14, 102),
                   call_info(0), next_timer(), advance(50), attempt_info(1))
        self.assertEqual(told[3][HEDGE_AT], 11)
        self.assertEqual(told[5:], [[0, 1000, 1, 1, 0, 101, 0, 0], [100, 1, 0], [0, 50], MISSING])

    def test_the_retry_removes_its_time_and_sets_that_for_a_hedged_attempt(self):
        told = ask(create(hedge_delay=10), add_backend(), start_call(), complete(0, 14, 102), advance(100),
                   call_info(0), attempt_info(1))
        self.assertEqual(told[5:], [[0, 1000, 2, 1, 0, 0, 111, 0], [0, 0, 2, 100, 900, 0, 0]])


if __name__ == "__main__":
    unittest.main()
