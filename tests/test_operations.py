"""Ordinary inputs, errors with their order, and the edges of the ranges, operation by operation."""

import unittest

from helper import (
    MISSING, MOST, NOT_RUNNING, NOTHING, OUTSIDE, TOO_MANY, add_backend, advance, ask, attempt_info, call_info, cancel,
    complete, create, last, next_timer, operation, remove_backend, run, set_weight, start_call,
)


class AddBackend(unittest.TestCase):
    def test_numbers_in_the_order_of_adding(self):
        self.assertEqual(ask(create(), add_backend(1), add_backend(100), add_backend(50))[1:], [[0], [1], [2]])

    def test_weight_at_its_edges(self):
        told = ask(create(), add_backend(0), add_backend(1), add_backend(100), add_backend(101), add_backend(MOST))
        self.assertEqual(told[1:], [OUTSIDE, [0], [1], OUTSIDE, OUTSIDE])

    def test_at_most_eight(self):
        told = ask(create(), *[add_backend()] * 9)
        self.assertEqual(told[1:], [[number] for number in range(8)] + [TOO_MANY])

    def test_removed_backends_count_and_their_numbers_stay_used(self):
        self.assertEqual(ask(create(), add_backend(), remove_backend(0), add_backend())[1:], [[0], [0], [1]])
        told = ask(create(), *[add_backend()] * 8, remove_backend(3), add_backend())
        self.assertEqual(told[-2:], [[7], TOO_MANY])

    def test_wrong_weight_comes_before_too_many(self):
        self.assertEqual(last(create(), *[add_backend()] * 8, add_backend(0)), OUTSIDE)
        self.assertEqual(last(create(), *[add_backend()] * 8, add_backend(101)), OUTSIDE)


class RemoveBackend(unittest.TestCase):
    def test_tells_how_many_are_active(self):
        told = ask(create(), *[add_backend()] * 3, remove_backend(1), remove_backend(0), remove_backend(2))
        self.assertEqual(told[-3:], [[2], [1], [0]])

    def test_no_such_active_backend(self):
        told = ask(create(), remove_backend(0), add_backend(), remove_backend(1), remove_backend(MOST),
                   remove_backend(0), remove_backend(0))
        self.assertEqual(told[1:], [MISSING, [0], MISSING, MISSING, [0], MISSING])

    def test_its_running_attempts_end_with_unavailable(self):
        told = ask(
            create(), add_backend(), add_backend(), start_call(1000, 0), start_call(1000, 0), start_call(1000, 0),
            advance(7), remove_backend(0), attempt_info(0), attempt_info(1), attempt_info(2),
            call_info(0), call_info(1), call_info(2),
        )
        self.assertEqual(told[7:], [
            [1],
            [0, 0, 1, 0, 1000, 1, 14], [1, 1, 1, 0, 1000, 0, 0], [2, 0, 1, 0, 1000, 1, 14],
            [15, 1000, 1, 0, 0, 0, 0, 7], [0, 1000, 1, 0, 0, 0, 0, 0], [15, 1000, 1, 0, 0, 0, 0, 7],
        ])

    def test_they_end_without_pushback_and_in_order(self):
        # Seed 1 gives 1103527590 and then 2524885223 mod 2^31: delays 75 and 87 within a bound of 100.
        told = ask(create(seed=1), add_backend(), start_call(), start_call(), remove_backend(0),
                   call_info(0), call_info(1))
        seed = (1103515245 * 1 + 12345) % 2 ** 31
        after = (1103515245 * seed + 12345) % 2 ** 31
        self.assertEqual(told[-2][5], seed % 101 + 1)
        self.assertEqual(told[-1][5], after % 101 + 1)

    def test_an_attempt_that_was_cancelled_meanwhile_is_skipped(self):
        told = ask(create(hedge_delay=10, retryable=(2,)), add_backend(), start_call(), advance(10),
                   remove_backend(0), attempt_info(0), attempt_info(1), call_info(0))
        self.assertEqual(told[4:], [
            [0], [0, 0, 1, 0, 1000, 1, 14], [0, 0, 2, 10, 990, 2, 0], [15, 1000, 2, 0, 0, 0, 0, 10],
        ])

    def test_no_later_attempt_goes_to_it(self):
        setup = [create(), add_backend(), add_backend(), add_backend(), remove_backend(1)]
        told = ask(*setup, *[start_call()] * 3, *[attempt_info(number) for number in range(3)])
        self.assertEqual([answer[1] for answer in told[-3:]], [0, 2, 0])


class SetWeight(unittest.TestCase):
    def test_gives_back_the_old_weight(self):
        told = ask(create(), add_backend(7), add_backend(8), set_weight(0, 1), set_weight(0, 100), set_weight(0, 9),
                   set_weight(1, 5))
        self.assertEqual(told[3:], [[7], [1], [100], [8]])

    def test_weight_at_its_edges(self):
        told = ask(create(), add_backend(7), set_weight(0, 0), set_weight(0, 101), set_weight(0, MOST),
                   set_weight(0, 1), set_weight(0, 100), set_weight(0, 100))
        self.assertEqual(told[2:], [OUTSIDE, OUTSIDE, OUTSIDE, [7], [1], [100]])

    def test_no_such_active_backend_comes_before_a_wrong_weight(self):
        told = ask(create(), add_backend(7), set_weight(1, 5), set_weight(1, 0), set_weight(MOST, 0),
                   remove_backend(0), set_weight(0, 5), set_weight(0, 101))
        self.assertEqual(told[2:5], [MISSING] * 3)
        self.assertEqual(told[6:], [MISSING] * 2)


class StartCall(unittest.TestCase):
    def test_starts_a_call_with_its_first_attempt(self):
        told = ask(create(), add_backend(), advance(30), start_call(200, 0, 5), start_call(300, 1, 6),
                   call_info(0), call_info(1), attempt_info(0), attempt_info(1))
        self.assertEqual(told[3:], [
            [0, 0], [1, 0],
            [0, 230, 1, 0, 0, 0, 0, 0], [0, 330, 1, 0, 0, 0, 0, 0],
            [0, 0, 1, 30, 200, 0, 0], [1, 0, 1, 30, 300, 0, 0],
        ])

    def test_without_an_active_backend_it_ends_at_once(self):
        told = ask(create(), advance(9), start_call(200), call_info(0), attempt_info(0), next_timer(),
                   add_backend(), remove_backend(0), start_call(200), add_backend(), start_call(200), attempt_info(0))
        self.assertEqual(told[2:6], [[0, 15], [15, 209, 0, 0, 0, 0, 0, 9], MISSING, NOTHING])
        self.assertEqual(told[8:], [[1, 15], [1], [2, 0], [2, 1, 1, 9, 200, 0, 0]])

    def test_timeout_at_its_edges(self):
        told = ask(create(), add_backend(), start_call(0), start_call(1), start_call(100000), start_call(100001),
                   start_call(MOST), call_info(0), call_info(1), call_info(2))
        self.assertEqual(told[2:], [
            OUTSIDE, [0, 0], [1, 0], OUTSIDE, OUTSIDE,
            [0, 1, 1, 0, 0, 0, 0, 0], [0, 100000, 1, 0, 0, 0, 0, 0], MISSING,
        ])

    def test_idempotent_at_its_edges(self):
        told = ask(create(), add_backend(), start_call(9, 2), start_call(9, MOST), start_call(9, 0), start_call(9, 1))
        self.assertEqual(told[2:], [OUTSIDE, OUTSIDE, [0, 0], [1, 0]])

    def test_any_key(self):
        told = ask(create(balancer=3), add_backend(), start_call(9, 0, 0), start_call(9, 0, MOST))
        self.assertEqual(told[2:], [[0, 0], [1, 0]])

    def test_at_most_sixty_calls(self):
        # A list of sixty calls has no room for sixty of these behind create, so this one is longer.
        told = ask(create(), *[start_call()] * 60, start_call(), start_call(0), call_info(59), call_info(60))
        self.assertEqual(told[1:61], [[number, 15] for number in range(60)])
        self.assertEqual(told[61:63], [TOO_MANY, OUTSIDE])
        self.assertEqual(told[63][0], 15)
        self.assertEqual(told[64], MISSING)

    def with_195_attempts(self):
        """39 calls that each have hedged to 5 attempts."""
        return [create(max_attempts=5, hedge_delay=1), add_backend(), *[start_call(100000)] * 39, advance(4)]

    def test_no_call_starts_with_200_attempts(self):
        setup = [*self.with_195_attempts(), *[start_call(100000, 0)] * 4]
        told = ask(*setup, attempt_info(198), attempt_info(199), start_call(100000, 0), start_call(100000, 0),
                   call_info(43), call_info(44))
        self.assertEqual(told[-6][0], 42)
        self.assertEqual(told[-5:-2], [MISSING, [43, 0], TOO_MANY])
        self.assertEqual(told[-2][0], 0)
        self.assertEqual(told[-1], MISSING)

    def test_no_call_starts_with_more_than_200_attempts(self):
        setup = [*self.with_195_attempts(), *[start_call(100000, 0)] * 5]
        told = ask(*setup, complete(199, 100), attempt_info(200), start_call(), start_call(0), start_call(5, 2))
        self.assertEqual(told[-5:], [[0], [43, 0, 2, 4, 100000, 0, 0], TOO_MANY, OUTSIDE, OUTSIDE])


class Complete(unittest.TestCase):
    def test_gives_back_the_status_of_the_call(self):
        setup = [create(retryable=(14,)), add_backend(), *[start_call(1000, 1)] * 4]
        told = ask(*setup, complete(2, 0), complete(0, 16), complete(1, 14), complete(3, 100), complete(4, 100),
                   call_info(0), call_info(1), call_info(2), call_info(3))
        self.assertEqual(told[6:11], [[1], [17], [0], [0], [0]])
        self.assertEqual([answer[0] for answer in told[11:]], [17, 0, 1, 0])

    def test_a_call_can_end_as_refused(self):
        told = ask(create(max_attempts=1), add_backend(), start_call(), complete(0, 100), complete(1, 100),
                   call_info(0))
        self.assertEqual(told[3:], [[0], [101], [101, 1000, 1, 0, 1, 0, 0, 0]])

    def test_status_at_its_edges(self):
        for status in (17, 99, 101, MOST):
            told = ask(create(), add_backend(), start_call(), complete(0, status), attempt_info(0))
            self.assertEqual(told[3:], [OUTSIDE, [0, 0, 1, 0, 1000, 0, 0]])
        for status in range(17):
            told = ask(create(), add_backend(), start_call(1000, 0), complete(0, status), attempt_info(0))
            self.assertEqual(told[3:], [[status + 1], [0, 0, 1, 0, 1000, 1, status]])
        self.assertEqual(last(create(), add_backend(), start_call(), complete(0, 100)), [0])

    def test_pushback_at_its_edges(self):
        for pushback in (0, 1, 2, 100002):
            self.assertEqual(last(create(), add_backend(), start_call(), complete(0, 0, pushback)), [1])
        for pushback in (100003, MOST):
            told = ask(create(), add_backend(), start_call(), complete(0, 0, pushback), attempt_info(0))
            self.assertEqual(told[3:], [OUTSIDE, [0, 0, 1, 0, 1000, 0, 0]])

    def test_no_such_attempt(self):
        told = ask(create(), complete(0, 0), add_backend(), start_call(), complete(1, 0), complete(MOST, 0))
        self.assertEqual([told[1], told[4], told[5]], [MISSING] * 3)

    def test_no_such_attempt_comes_before_wrong_arguments(self):
        told = ask(create(), complete(0, 17), complete(0, 0, 100003))
        self.assertEqual(told[1:], [MISSING] * 2)

    def test_wrong_arguments_come_before_an_attempt_that_is_not_running(self):
        told = ask(create(), add_backend(), start_call(), complete(0, 0), complete(0, 17), complete(0, 0, 100003),
                   complete(0, 0))
        self.assertEqual(told[4:], [OUTSIDE, OUTSIDE, NOT_RUNNING])

    def test_a_cancelled_attempt_is_not_running(self):
        told = ask(create(), add_backend(), start_call(), cancel(0), complete(0, 0), attempt_info(0), call_info(0))
        self.assertEqual(told[4:], [NOT_RUNNING, [0, 0, 1, 0, 1000, 2, 0], [2, 1000, 1, 0, 0, 0, 0, 0]])


class Cancel(unittest.TestCase):
    def test_tells_how_many_attempts_were_running(self):
        told = ask(create(hedge_delay=10), add_backend(), start_call(), advance(25), cancel(0), call_info(0),
                   *[attempt_info(number) for number in range(3)], next_timer())
        self.assertEqual(told[4:], [
            [3], [2, 1000, 3, 0, 0, 0, 0, 25],
            [0, 0, 1, 0, 1000, 2, 0], [0, 0, 2, 10, 990, 2, 0], [0, 0, 3, 20, 980, 2, 0], NOTHING,
        ])

    def test_finished_attempts_and_those_of_other_calls_are_left_alone(self):
        told = ask(create(), add_backend(), start_call(), start_call(), complete(0, 14, 2), cancel(0),
                   attempt_info(0), attempt_info(1), call_info(0), call_info(1))
        self.assertEqual(told[5:], [
            [0], [0, 0, 1, 0, 1000, 1, 14], [1, 0, 1, 0, 1000, 0, 0],
            [2, 1000, 1, 1, 0, 0, 0, 0], [0, 1000, 1, 0, 0, 0, 0, 0],
        ])

    def test_errors(self):
        told = ask(create(), cancel(0), add_backend(), start_call(), cancel(1), cancel(MOST), cancel(0), cancel(0),
                   start_call(), complete(1, 0), cancel(1))
        self.assertEqual([told[1], told[4], told[5]], [MISSING] * 3)
        self.assertEqual([told[6], told[7], told[10]], [[1], NOT_RUNNING, NOT_RUNNING])


class Advance(unittest.TestCase):
    def test_counts_timers_and_tells_the_clock(self):
        told = ask(create(), add_backend(), advance(5), start_call(10), start_call(20), advance(9), advance(1),
                   advance(100), advance(0))
        self.assertEqual([told[2], *told[5:]], [[0, 5], [0, 14], [1, 15], [1, 115], [0, 115]])

    def test_duration_at_its_edges(self):
        told = ask(create(), advance(0), advance(1000000), advance(1000001), advance(MOST), advance(1))
        self.assertEqual(told[1:], [[0, 0], [0, 1000000], OUTSIDE, OUTSIDE, [0, 1000001]])

    def test_no_time_passes_and_a_timer_is_reached(self):
        told = ask(create(), add_backend(), start_call(), complete(0, 14, 2), next_timer(), advance(0),
                   attempt_info(1))
        self.assertEqual(told[4:], [[0, 1, 0], [1, 0], [0, 0, 2, 0, 1000, 0, 0]])

    def test_the_clock_shows_the_time_of_a_timer_while_it_fires(self):
        told = ask(create(hedge_delay=30), add_backend(), start_call(100), advance(1000), call_info(0),
                   *[attempt_info(number) for number in range(3)])
        self.assertEqual(told[3:], [
            [3, 1000], [5, 100, 3, 0, 0, 0, 0, 100],
            [0, 0, 1, 0, 100, 2, 0], [0, 0, 2, 30, 70, 2, 0], [0, 0, 3, 60, 40, 2, 0],
        ])


class NextTimer(unittest.TestCase):
    def test_none(self):
        told = ask(create(), next_timer(), add_backend(), start_call(), cancel(0), next_timer())
        self.assertEqual([told[1], told[5]], [NOTHING, NOTHING])

    def test_each_kind(self):
        told = ask(create(hedge_delay=40), add_backend(), start_call(30), next_timer(), start_call(60, 0),
                   cancel(0), next_timer(), start_call(90), next_timer(), complete(2, 14, 19), next_timer())
        self.assertEqual([told[3], told[6], told[8], told[10]], [[30, 0, 0], [60, 0, 1], [40, 2, 2], [17, 1, 2]])

    def test_it_changes_nothing(self):
        told = ask(create(), add_backend(), start_call(30), next_timer(), next_timer(), run())
        self.assertEqual(told[3:], [[30, 0, 0], [30, 0, 0], [1, 0]])


class Run(unittest.TestCase):
    def test_no_statuses(self):
        told = ask(create(), run(), add_backend(), start_call(), advance(3), run())
        self.assertEqual([told[1], told[5]], [[0, 0], [1, 3]])

    def test_nothing_happens_without_attempts_and_timers(self):
        told = ask(create(), advance(4), run(0, 14, 100))
        self.assertEqual(told[2], [0, 4])

    def test_the_smallest_running_attempt_ends(self):
        told = ask(create(), add_backend(), start_call(), start_call(), start_call(), complete(0, 0), run(5),
                   *[attempt_info(number) for number in range(3)])
        self.assertEqual(told[6], [1, 0])
        self.assertEqual([answer[5:] for answer in told[7:]], [[1, 0], [1, 5], [0, 0]])

    def test_statuses_end_attempts_and_pass_by_timers(self):
        # The third status is used up by the retry timer at 75.
        told = ask(create(seed=1), add_backend(), start_call(), start_call(1000, 0), run(14, 3, 0, 6),
                   call_info(0), call_info(1), attempt_info(2))
        self.assertEqual(told[4:], [
            [0, 75], [7, 1000, 2, 1, 0, 0, 0, 75], [4, 1000, 1, 0, 0, 0, 0, 0], [0, 0, 2, 75, 925, 1, 6],
        ])

    def test_only_one_timer_fires_for_a_status(self):
        told = ask(create(), add_backend(), start_call(), start_call(), complete(0, 14, 12), complete(1, 14, 12),
                   run(0), next_timer(), call_info(0), call_info(1))
        self.assertEqual(told[6:8], [[1, 10], [10, 1, 1]])
        self.assertEqual([told[8][5], told[9][5]], [0, 11])

    def test_attempts_end_without_pushback(self):
        told = ask(create(seed=1), add_backend(), start_call(), run(14), next_timer())
        self.assertEqual(told[3:], [[0, 0], [75, 1, 0]])

    def test_status_at_its_edges(self):
        for status in (17, 99, 101, MOST):
            told = ask(create(), add_backend(), start_call(), run(status), run(0, status), run(status, 0), run())
            self.assertEqual(told[3:], [OUTSIDE, OUTSIDE, OUTSIDE, [1, 0]])
        for status in [*range(17), 100]:
            self.assertEqual(last(create(max_attempts=1), run(status)), [0, 0])

    def test_at_most_forty_statuses(self):
        setup = [create(max_attempts=1), add_backend(), *[start_call()] * 41]
        self.assertEqual(last(*setup, run(*[0] * 39)), [2, 0])
        self.assertEqual(last(*setup, run(*[0] * 40)), [1, 0])
        # No longer list is handed in, but the document names this error, too.
        self.assertEqual(ask(*setup, run(*[0] * 41), run())[-2:], [OUTSIDE, [41, 0]])


class Infos(unittest.TestCase):
    def test_call_info(self):
        told = ask(create(seed=1, hedge_delay=50), add_backend(), advance(20), start_call(1000), call_info(0),
                   complete(0, 100), call_info(0), complete(1, 14), call_info(0), advance(100), complete(2, 0),
                   call_info(0))
        self.assertEqual([told[4], told[6], told[8], told[11]], [
            [0, 1020, 1, 0, 0, 0, 71, 0],
            [0, 1020, 1, 0, 1, 0, 71, 0],
            [0, 1020, 1, 1, 1, 96, 0, 0],
            [1, 1020, 2, 1, 1, 0, 0, 120],
        ])

    def test_attempt_info(self):
        told = ask(create(), add_backend(), add_backend(), start_call(50), advance(5), start_call(70, 0),
                   attempt_info(0), attempt_info(1), complete(1, 9), attempt_info(1), advance(45), attempt_info(0))
        self.assertEqual([told[6], told[7], told[9], told[11]], [
            [0, 0, 1, 0, 50, 0, 0], [1, 1, 1, 5, 70, 0, 0], [1, 1, 1, 5, 70, 1, 9], [0, 0, 1, 0, 50, 2, 0],
        ])

    def test_the_time_told_by_attempt_info_shrinks_with_each_attempt(self):
        told = ask(create(hedge_delay=10), add_backend(), start_call(50), advance(20), attempt_info(0),
                   attempt_info(1), attempt_info(2))
        self.assertEqual([answer[4] for answer in told[4:]], [50, 40, 30])

    def test_errors(self):
        told = ask(create(), call_info(0), attempt_info(0), add_backend(), start_call(), call_info(1),
                   attempt_info(1), call_info(MOST), attempt_info(MOST))
        self.assertEqual(told[1:3] + told[5:], [MISSING] * 6)


class FailedCallsChangeNothing(unittest.TestCase):
    SETUPS = (
        (create(seed=7, threshold=1, max_tokens=3, refund=100, hedge_delay=20), add_backend(3), add_backend(5),
         start_call(400, 1, 9), advance(20), start_call(300, 0, 8), complete(1, 14, 1), start_call(200, 1, 1),
         complete(2, 0), cancel(2)),
        (create(seed=9, balancer=1), *[add_backend(2)] * 8, remove_backend(0), start_call(500), complete(0, 14),
         start_call(), complete(1, 0)),
        (create(balancer=2, hedge_delay=5), add_backend(), add_backend(), remove_backend(0), start_call(100),
         advance(5), cancel(0), start_call(100)),
    )
    WRONG = (
        create(seed=2147483648), create(balancer=4), create(max_attempts=6), operation(0, 0, 0),
        add_backend(0), add_backend(101),
        remove_backend(8), remove_backend(MOST), set_weight(8, 1), set_weight(1, 0), set_weight(1, 101),
        start_call(0), start_call(100001), start_call(1, 2),
        complete(0, 17), complete(0, 0, 100003), complete(50, 0), complete(50, 17, 100003),
        cancel(50), advance(1000001), run(17), run(0, 0, 99), call_info(50), attempt_info(50),
    )
    CHECKS = (
        run(), next_timer(), *[call_info(number) for number in range(3)],
        *[attempt_info(number) for number in range(3)],
        start_call(900), run(14, 100, 14), start_call(900), advance(60), run(14, 14),
        *[attempt_info(number) for number in range(3, 9)], set_weight(1, 1), call_info(0), call_info(2), call_info(3),
        next_timer(),
    )

    def test_wrong_calls_between_right_ones(self):
        for setup in self.SETUPS:
            plain = ask(*setup, *self.CHECKS)[len(setup):]
            for wrong in self.WRONG:
                with self.subTest(wrong=wrong):
                    told = ask(*setup, wrong, *self.CHECKS)[len(setup):]
                    self.assertEqual(len(told[0]), 1)
                    self.assertLess(told[0][0], 0)
                    self.assertEqual(told[1:], plain)

    def test_wrong_calls_that_need_what_was_set_up(self):
        cases = (
            (self.SETUPS[0], (complete(1, 0), NOT_RUNNING), (cancel(2), NOT_RUNNING), (complete(2, 14), NOT_RUNNING)),
            (self.SETUPS[1], (add_backend(), TOO_MANY), (remove_backend(0), MISSING), (set_weight(0, 5), MISSING)),
            (self.SETUPS[2], (cancel(0), NOT_RUNNING), (complete(0, 14), NOT_RUNNING), (remove_backend(0), MISSING)),
        )
        for setup, *wrongs in cases:
            plain = ask(*setup, *self.CHECKS)[len(setup):]
            for wrong, code in wrongs:
                with self.subTest(wrong=wrong):
                    told = ask(*setup, wrong, *self.CHECKS)[len(setup):]
                    self.assertEqual(told[0], code)
                    self.assertEqual(told[1:], plain)

    def test_too_many_calls(self):
        setup = [create(max_attempts=5, hedge_delay=1, balancer=0), add_backend(), add_backend(),
                 *[start_call(100000)] * 40, advance(4)]
        checks = [call_info(40), attempt_info(200), run(14), complete(1, 100), attempt_info(200), next_timer()]
        plain = ask(*setup, *checks)[len(setup):]
        told = ask(*setup, start_call(), *checks)[len(setup):]
        self.assertEqual(told[0], TOO_MANY)
        self.assertEqual(told[1:], plain)


if __name__ == "__main__":
    unittest.main()
