"""call_attempts, running_attempts, backoff_bound, budget and status."""

import unittest

from helper import (
    MISSING, MOST, OUTSIDE, add_backend, advance, ask, backoff_bound, budget, call_attempts, cancel, client_status,
    complete, create, last, next_seed, next_timer, remove_backend, run, running_attempts, set_weight, start_call,
)

AT_ONCE = 2
FIRST_SEED = 1103527590


class CallAttempts(unittest.TestCase):
    def test_the_attempts_of_each_call_in_order(self):
        told = ask(create(hedge_delay=10), add_backend(), start_call(), start_call(1000, 0), start_call(),
                   advance(20), *[call_attempts(call) for call in range(3)])
        self.assertEqual(told[6:], [[3, 0, 3, 5], [1, 1], [3, 2, 4, 6]])

    def test_finished_and_cancelled_attempts_stay(self):
        setup = [create(hedge_delay=10), add_backend(), start_call(), start_call(), advance(10)]
        for end in (complete(0, 14), complete(0, 0), complete(2, 3), cancel(0), advance(990), remove_backend(0)):
            told = ask(*setup, end, call_attempts(0))
            self.assertEqual(told[-1][:3], [told[-1][0], 0, 2])

    def test_retries_and_transparent_retries(self):
        told = ask(create(), add_backend(), start_call(), call_attempts(0), complete(0, 100), call_attempts(0),
                   complete(1, 14, AT_ONCE), call_attempts(0), advance(0), call_attempts(0))
        self.assertEqual(told[3::2], [[1, 0], [2, 0, 1], [2, 0, 1], [3, 0, 1, 2]])

    def test_six_attempts_at_the_most(self):
        told = ask(create(max_attempts=5, hedge_delay=1), add_backend(), start_call(), complete(0, 100), advance(50),
                   call_attempts(0))
        self.assertEqual(told[-1], [6, 0, 1, 2, 3, 4, 5])

    def test_none_without_an_active_backend(self):
        told = ask(create(), start_call(), call_attempts(0), add_backend(), start_call(), call_attempts(0),
                   call_attempts(1))
        self.assertEqual([told[2], told[5], told[6]], [[0], [0], [1, 0]])

    def test_no_such_call(self):
        told = ask(create(), call_attempts(0), add_backend(), start_call(), call_attempts(0), call_attempts(1),
                   call_attempts(MOST), create(), call_attempts(0))
        self.assertEqual([told[1], *told[4:7], told[8]], [MISSING, [1, 0], MISSING, MISSING, MISSING])


class RunningAttempts(unittest.TestCase):
    def running(self, *calls):
        return last(create(hedge_delay=10), add_backend(), add_backend(), *calls, running_attempts())

    def test_none(self):
        self.assertEqual(last(create(), running_attempts()), [0])
        self.assertEqual(last(create(), start_call(), running_attempts()), [0])
        self.assertEqual(self.running(start_call(), complete(0, 0)), [0])

    def test_those_that_run_in_order(self):
        three = [start_call(), start_call(50), start_call()]
        self.assertEqual(self.running(*three), [3, 0, 1, 2])
        self.assertEqual(self.running(*three, complete(1, 5)), [2, 0, 2])
        self.assertEqual(self.running(*three, complete(0, 14)), [2, 1, 2])
        self.assertEqual(self.running(*three, complete(0, 100)), [3, 1, 2, 3])
        self.assertEqual(self.running(*three, cancel(2)), [2, 0, 1])
        self.assertEqual(self.running(*three, advance(10)), [6, 0, 1, 2, 3, 4, 5])
        self.assertEqual(self.running(*three, advance(10), complete(4, 0)), [4, 0, 2, 3, 5])
        self.assertEqual(self.running(*three, advance(50)), [6, 0, 2, 3, 5, 6, 8])
        self.assertEqual(self.running(*three, remove_backend(0)), [1, 1])
        self.assertEqual(self.running(*three, advance(1000)), [0])

    def test_many(self):
        told = ask(create(hedge_delay=1, max_attempts=5), add_backend(), *[start_call(100000)] * 40, advance(4),
                   running_attempts())
        self.assertEqual(told[-1], [200, *range(200)])


class BackoffBound(unittest.TestCase):
    def bounds(self, **policy):
        told = ask(create(**policy), *[backoff_bound(retry) for retry in range(1, 11)])
        return [answer[0] for answer in told[1:]]

    def test_it_grows_by_the_multiplier_up_to_the_greatest(self):
        self.assertEqual(self.bounds(initial_backoff=100, multiplier=200, max_backoff=1000),
                         [100, 200, 400, 800, 1000, 1000, 1000, 1000, 1000, 1000])
        self.assertEqual(self.bounds(initial_backoff=10000, multiplier=1000, max_backoff=100000),
                         [10000] + [100000] * 9)
        self.assertEqual(self.bounds(initial_backoff=1, multiplier=300, max_backoff=6561),
                         [1, 3, 9, 27, 81, 243, 729, 2187, 6561, 6561])

    def test_it_is_rounded_down_once(self):
        # 1.5 to the powers 0 to 9 is 1, 1.5, 2.25, 3.375, 5.06, 7.59, 11.39, 17.09, 25.63 and 38.44.
        self.assertEqual(self.bounds(initial_backoff=1, multiplier=150, max_backoff=100000),
                         [1, 1, 2, 3, 5, 7, 11, 17, 25, 38])
        for initial, multiplier in ((7, 135), (9999, 101), (1, 999), (10000, 129), (3, 100), (50, 199)):
            expected = [min(100000, initial * multiplier ** power // 100 ** power) for power in range(10)]
            self.assertEqual(self.bounds(initial_backoff=initial, multiplier=multiplier, max_backoff=100000),
                             expected)

    def test_no_backoff(self):
        self.assertEqual(self.bounds(initial_backoff=0, multiplier=1000, max_backoff=100000), [0] * 10)
        self.assertEqual(self.bounds(initial_backoff=10000, multiplier=1000, max_backoff=0), [0] * 10)

    def test_the_attempts_allowed_do_not_matter(self):
        self.assertEqual(self.bounds(max_attempts=1)[:3], [100, 200, 400])

    def test_retry_at_its_edges(self):
        told = ask(create(), *[backoff_bound(retry) for retry in (0, 1, 10, 11, MOST)])
        self.assertEqual(told[1:], [OUTSIDE, [100], [1000], OUTSIDE, OUTSIDE])


class Budget(unittest.TestCase):
    def budgets(self, *statuses, **policy):
        """The budget at first and behind the end of each attempt; each call has one."""
        setup = [create(**policy), add_backend(), budget()]
        for attempt, status in enumerate(statuses):
            setup += [start_call(), complete(attempt, status, 1), budget()]
        return ask(*setup)[2::3]

    def test_none(self):
        self.assertEqual(self.budgets(14, 0, 14, max_tokens=0, refund=1000), [[0, 1]] * 4)

    def test_full_at_first(self):
        for most in (1, 10, 1000):
            self.assertEqual(self.budgets(max_tokens=most), [[most * 1000, 1]])

    def test_at_its_border(self):
        self.assertEqual(self.budgets(14, 14, 0, 0, max_tokens=4, refund=1),
                         [[4000, 1], [3000, 1], [2000, 0], [2001, 1], [2002, 1]])
        self.assertEqual(self.budgets(14, 14, 14, 0, max_tokens=5, refund=501),
                         [[5000, 1], [4000, 1], [3000, 1], [2000, 0], [2501, 1]])
        self.assertEqual(self.budgets(14, 14, 14, 0, max_tokens=5, refund=500)[-1], [2500, 0])
        self.assertEqual(self.budgets(14, max_tokens=2), [[2000, 1], [1000, 0]])

    def test_between_none_and_the_most(self):
        self.assertEqual(self.budgets(14, 14, 0, 14, max_tokens=1, refund=400),
                         [[1000, 1], [0, 0], [0, 0], [400, 0], [0, 0]])
        self.assertEqual(self.budgets(0, 14, 0, 0, max_tokens=3, refund=600),
                         [[3000, 1], [3000, 1], [2000, 1], [2600, 1], [3000, 1]])

    def test_only_what_could_be_repeated_costs_a_token(self):
        for calls, tokens in (
            ([complete(0, 13)], 3000), ([complete(1, 14)], 3000), ([complete(0, 14)], 2000),
            ([complete(0, 100)], 3000), ([complete(0, 100), complete(2, 100)], 2000), ([cancel(0)], 3000),
            ([advance(1000)], 3000), ([remove_backend(0)], 2000),
        ):
            told = ask(create(max_tokens=3), add_backend(), start_call(), start_call(1000, 0), *calls, budget())
            self.assertEqual(told[-1][0], tokens)

    def test_a_new_client_has_a_full_one(self):
        told = ask(create(max_tokens=3), add_backend(), start_call(), complete(0, 14), budget(),
                   create(max_tokens=7), budget())
        self.assertEqual([told[4], told[6]], [[2000, 1], [7000, 1]])


class Status(unittest.TestCase):
    NOW, SEED, POINTER, BACKENDS, ACTIVE, RUNNING = range(6)

    def statuses(self, *calls):
        """The status behind each call."""
        told = ask(*[one for call in calls for one in (call, client_status())])
        return told[1::2]

    def test_a_new_client(self):
        self.assertEqual(last(create(seed=0), client_status()), [0, 0, 0, 0, 0, 0])
        self.assertEqual(last(create(seed=2147483647), client_status()), [0, 2147483647, 0, 0, 0, 0])

    def test_behind_each_kind_of_change(self):
        told = self.statuses(
            create(seed=1, hedge_delay=100), add_backend(), add_backend(), set_weight(1, 9), start_call(),
            start_call(1000, 0), advance(40), complete(0, 14), complete(1, 5), next_timer(), run(0), run(0),
            remove_backend(1), start_call(), cancel(2), create(seed=7),
        )
        self.assertEqual(told, [
            [0, 1, 0, 0, 0, 0], [0, 1, 0, 1, 1, 0], [0, 1, 0, 2, 2, 0], [0, 1, 0, 2, 2, 0], [0, 1, 1, 2, 2, 1],
            [0, 1, 2, 2, 2, 2], [40, 1, 2, 2, 2, 2], [40, FIRST_SEED, 2, 2, 2, 1], [40, FIRST_SEED, 2, 2, 2, 0],
            [40, FIRST_SEED, 2, 2, 2, 0], [115, FIRST_SEED, 2, 2, 2, 1], [115, FIRST_SEED, 2, 2, 2, 0],
            [115, FIRST_SEED, 2, 2, 1, 0], [115, FIRST_SEED, 1, 2, 1, 1], [115, FIRST_SEED, 1, 2, 1, 0],
            [0, 7, 0, 0, 0, 0],
        ])

    def test_the_seed_moves_with_each_random_delay(self):
        told = self.statuses(create(seed=1), add_backend(), start_call(), complete(0, 14), run(14), run(14),
                             start_call(), complete(2, 14, 5))
        second = next_seed(FIRST_SEED)
        self.assertEqual([answer[self.SEED] for answer in told],
                         [1, 1, 1, FIRST_SEED, FIRST_SEED, second, second, second])

    def test_the_pointer_of_the_other_balancers_stays(self):
        for balancer in (1, 2, 3):
            told = ask(create(balancer=balancer), add_backend(), add_backend(), start_call(), start_call(),
                       client_status())
            self.assertEqual(told[-1], [0, 1, 0, 2, 2, 2])

    def test_the_pointer_is_up_to_the_number_of_backends(self):
        told = ask(create(), *[add_backend()] * 8, *[start_call()] * 8, client_status(), start_call(),
                   client_status())
        self.assertEqual([told[17], told[19]], [[0, 1, 8, 8, 8, 8], [0, 1, 1, 8, 8, 9]])

    def test_removed_backends_are_among_all_but_not_among_the_active_ones(self):
        told = self.statuses(create(), add_backend(), add_backend(), remove_backend(0), remove_backend(1),
                             add_backend())
        self.assertEqual([answer[3:5] for answer in told], [[0, 0], [1, 1], [2, 2], [2, 1], [2, 0], [3, 1]])

    def test_ejected_backends_are_active(self):
        told = ask(create(threshold=1), add_backend(), start_call(1000, 0), complete(0, 14), client_status())
        self.assertEqual(told[-1], [0, 1, 1, 1, 1, 0])


if __name__ == "__main__":
    unittest.main()
