"""backend_info and available_backends: weights, loads, failures, ejections and current values."""

import unittest

from helper import (
    MISSING, MOST, add_backend, advance, ask, available_backends, backend_info, cancel, complete, create, last,
    remove_backend, set_weight, start_call,
)

ONCE = start_call(100000, 0)
WEIGHTED = 1
(ACTIVE, WEIGHT, OUTSTANDING, FAILURES, EJECTIONS, EJECTED_UNTIL, EJECTED, CURRENT) = range(8)


def infos(setup, backends):
    return ask(*setup, *[backend_info(backend) for backend in range(backends)])[-backends:]


def column(setup, backends, place):
    return [answer[place] for answer in infos(setup, backends)]


class Backends(unittest.TestCase):
    def test_a_new_one(self):
        self.assertEqual(infos([create(), add_backend(1), add_backend(100)], 2),
                         [[1, 1, 0, 0, 0, 0, 0, 0], [1, 100, 0, 0, 0, 0, 0, 0]])

    def test_no_such_backend(self):
        told = ask(create(), backend_info(0), add_backend(), backend_info(0), backend_info(1), backend_info(MOST))
        self.assertEqual([told[1], *told[4:]], [MISSING] * 3)
        told = ask(create(), *[add_backend()] * 9, backend_info(7), backend_info(8))
        self.assertEqual(told[-2:], [[1, 1, 0, 0, 0, 0, 0, 0], MISSING])
        self.assertEqual(last(create(), add_backend(), create(), backend_info(0)), MISSING)

    def test_a_removed_one(self):
        setup = [create(), add_backend(3), add_backend(4), remove_backend(0)]
        self.assertEqual(infos(setup, 2), [[0, 3, 0, 0, 0, 0, 0, 0], [1, 4, 0, 0, 0, 0, 0, 0]])
        self.assertEqual(infos([*setup, add_backend(5)], 3)[0], [0, 3, 0, 0, 0, 0, 0, 0])

    def test_a_new_weight(self):
        setup = [create(), add_backend(3), add_backend(4), set_weight(1, 100)]
        self.assertEqual(column(setup, 2, WEIGHT), [3, 100])
        self.assertEqual(column([*setup, set_weight(1, 101), set_weight(0, 0)], 2, WEIGHT), [3, 100])


class Outstanding(unittest.TestCase):
    def test_they_are_the_running_attempts(self):
        setup = [create(hedge_delay=10), add_backend(), add_backend(), start_call(), start_call()]
        for calls, outstanding in (
            ([], [1, 1]),
            ([advance(10)], [2, 2]),
            ([advance(20)], [3, 3]),
            ([advance(10), complete(0, 14)], [1, 2]),
            ([advance(10), complete(0, 0)], [1, 1]),
            ([advance(10), cancel(1)], [1, 1]),
            ([advance(10), complete(0, 100)], [1, 3]),
            ([advance(1000)], [0, 0]),
            ([advance(10), remove_backend(0)], [0, 2]),
        ):
            self.assertEqual(column([*setup, *calls], 2, OUTSTANDING), outstanding)


class Failures(unittest.TestCase):
    def failures(self, *statuses, threshold=0):
        setup = [create(threshold=threshold), add_backend()]
        for attempt, status in enumerate(statuses):
            setup += [ONCE, complete(attempt, status)]
        return infos(setup, 1)[0][FAILURES:EJECTED]

    def test_only_unknown_and_unavailable_count(self):
        for status in range(1, 17):
            self.assertEqual(self.failures(status), [int(status in (2, 14)), 0, 0])
        self.assertEqual(infos([create(), add_backend(), ONCE, complete(0, 100)], 1)[0][FAILURES], 0)

    def test_those_one_behind_another(self):
        self.assertEqual(self.failures(14, 2, 14), [3, 0, 0])
        self.assertEqual(self.failures(14, 5, 14), [2, 0, 0])
        self.assertEqual(self.failures(14, 14, 0), [0, 0, 0])
        self.assertEqual(self.failures(14, 14, 0, 2), [1, 0, 0])

    def test_without_a_threshold_they_only_add_up(self):
        self.assertEqual(self.failures(*[14] * 25), [25, 0, 0])

    def test_an_ejection_sets_them_to_zero(self):
        self.assertEqual(self.failures(14, threshold=2), [1, 0, 0])
        self.assertEqual(self.failures(14, 14, threshold=2), [0, 1, 1001])
        self.assertEqual(self.failures(14, 14, 14, threshold=2), [1, 1, 1001])
        self.assertEqual(self.failures(*[14] * 9, threshold=10), [9, 0, 0])
        self.assertEqual(self.failures(*[14] * 10, threshold=10), [0, 1, 1001])

    def test_they_add_up_where_there_is_no_room_for_an_ejection(self):
        setup = [create(threshold=1, ejection_percent=50), add_backend(), add_backend(), *[ONCE] * 4,
                 *[complete(attempt, 14) for attempt in range(4)]]
        self.assertEqual(infos(setup, 2), [[1, 1, 0, 1, 1, 1001, 1, 0], [1, 1, 0, 2, 0, 0, 0, 0]])


class Ejection(unittest.TestCase):
    SETUP = [create(threshold=2, ejection_time=50), add_backend(3), add_backend(4), ONCE, ONCE, ONCE, ONCE,
             advance(7), complete(0, 14)]

    def at(self, time, *calls):
        """What is told of both backends and of the available ones at a time behind 7."""
        told = ask(*self.SETUP, *calls, advance(time - 7), backend_info(0), backend_info(1), available_backends())
        return told[-3:]

    def test_before_at_and_after_its_end(self):
        sound = [1, 4, 2, 0, 0, 0, 0, 0]
        self.assertEqual(self.at(7), [[1, 3, 1, 1, 0, 0, 0, 0], sound, [2, 0, 1]])
        failed = complete(2, 14)
        for time in (7, 8, 56):
            self.assertEqual(self.at(time, failed), [[1, 3, 0, 0, 1, 58, 1, 0], sound, [1, 1]])
        for time in (57, 58, 10000):
            self.assertEqual(self.at(time, failed), [[1, 3, 0, 0, 1, 58, 0, 0], sound, [2, 0, 1]])

    def test_the_second_one_takes_twice_as_long(self):
        setup = [create(threshold=1, ejection_time=50), add_backend(), ONCE, complete(0, 14), advance(50), ONCE,
                 complete(1, 2)]
        for time, ejected in ((0, 1), (99, 1), (100, 0)):
            told = ask(*setup, advance(time), backend_info(0), available_backends())
            self.assertEqual(told[-2:], [[1, 1, 0, 0, 2, 151, ejected, 0], [0] if ejected else [1, 0]])

    def test_a_failure_while_ejected(self):
        told = ask(create(threshold=1, ejection_time=50), add_backend(), ONCE, ONCE, complete(0, 14), advance(20),
                   complete(1, 14), backend_info(0), available_backends())
        self.assertEqual(told[-2:], [[1, 1, 0, 1, 1, 51, 1, 0], [0]])

    def test_a_success_while_ejected_does_not_end_it(self):
        told = ask(create(threshold=1, ejection_time=50), add_backend(), ONCE, ONCE, ONCE, complete(0, 14),
                   complete(1, 14), complete(2, 0), backend_info(0), available_backends())
        self.assertEqual(told[-2:], [[1, 1, 0, 0, 1, 51, 1, 0], [0]])

    def test_the_longest(self):
        told = ask(create(threshold=1, ejection_time=100000), add_backend(), ONCE, complete(0, 14), advance(99999),
                   backend_info(0), advance(1), backend_info(0))
        self.assertEqual([told[5], told[7]], [[1, 1, 0, 0, 1, 100001, 1, 0], [1, 1, 0, 0, 1, 100001, 0, 0]])

    def test_a_share_of_the_active_backends(self):
        for percent, ejected in ((0, 0), (24, 0), (25, 1), (74, 2), (75, 3), (100, 4)):
            setup = [create(threshold=1, ejection_percent=percent), *[add_backend()] * 4, *[ONCE] * 4,
                     *[complete(attempt, 14) for attempt in range(4)]]
            told = ask(*setup, available_backends())[-1]
            self.assertEqual(told, [4 - ejected, *range(ejected, 4)])
            self.assertEqual(column(setup, 4, EJECTED), [1] * ejected + [0] * (4 - ejected))


class RemovedWhileEjected(unittest.TestCase):
    SETUP = [create(threshold=1, ejection_time=50), add_backend(), add_backend(), ONCE, ONCE, complete(0, 14),
             remove_backend(0)]

    def test_its_ejection_lasts_to_its_end(self):
        for time, ejected in ((0, 1), (49, 1), (50, 0), (51, 0)):
            told = ask(*self.SETUP, advance(time), backend_info(0), available_backends())
            self.assertEqual(told[-2:], [[0, 1, 0, 0, 1, 51, ejected, 0], [1, 1]])

    def test_the_failures_of_its_last_attempts_count_but_do_not_eject_it(self):
        setup = [create(threshold=1), add_backend(), add_backend(), *[start_call()] * 3, remove_backend(0)]
        self.assertEqual(infos(setup, 2), [[0, 1, 0, 2, 0, 0, 0, 0], [1, 1, 1, 0, 0, 0, 0, 0]])

    def test_it_leaves_room_for_the_ejection_of_another(self):
        setup = [create(threshold=1, ejection_percent=50), *[add_backend()] * 3, *[ONCE] * 3, complete(0, 14)]
        self.assertEqual(column([*setup, complete(1, 14)], 3, EJECTED), [1, 0, 0])
        self.assertEqual(column([*setup, remove_backend(0), complete(1, 14)], 3, EJECTED), [1, 1, 0])


class Current(unittest.TestCase):
    def test_smooth_turns(self):
        values = [[0, 0, 0], [-2, 1, 1], [-4, 2, 2], [1, -4, 3], [-1, -3, 4], [4, -2, -2], [2, -1, -1], [0, 0, 0]]
        for started, current in enumerate(values):
            setup = [create(balancer=WEIGHTED), add_backend(5), add_backend(1), add_backend(1), *[ONCE] * started]
            self.assertEqual(column(setup, 3, CURRENT), current)

    def test_only_candidates_change(self):
        # Behind the first choice 0 is ejected, so that the next one is among 1 and 2.
        setup = [create(balancer=WEIGHTED, threshold=1), add_backend(9), add_backend(1), add_backend(2), ONCE]
        self.assertEqual(column(setup, 3, CURRENT), [-3, 1, 2])
        self.assertEqual(column([*setup, complete(0, 14), ONCE], 3, CURRENT), [-3, 2, 1])

    def test_a_new_weight_leaves_it(self):
        setup = [create(balancer=WEIGHTED), add_backend(2), add_backend(1), ONCE, set_weight(0, 10)]
        self.assertEqual(column(setup, 2, CURRENT), [-1, 1])
        self.assertEqual(column([*setup, ONCE], 2, CURRENT), [-2, 2])

    def test_a_removed_backend_keeps_it(self):
        setup = [create(balancer=WEIGHTED), add_backend(2), add_backend(1), ONCE, remove_backend(0), ONCE]
        self.assertEqual(infos(setup, 2), [[0, 2, 0, 1, 0, 0, 0, -1], [1, 1, 1, 0, 0, 0, 0, 1]])

    def test_the_other_balancers_leave_it_zero(self):
        for balancer in (0, 2, 3):
            setup = [create(balancer=balancer), add_backend(2), add_backend(1), *[ONCE] * 3]
            self.assertEqual(column(setup, 2, CURRENT), [0, 0])

    def test_the_greatest_weights(self):
        setup = [create(balancer=WEIGHTED), *[add_backend(100)] * 8, ONCE]
        self.assertEqual(column(setup, 8, CURRENT), [-700] + [100] * 7)


class AvailableBackends(unittest.TestCase):
    def test_none(self):
        told = ask(create(), available_backends(), add_backend(), remove_backend(0), available_backends())
        self.assertEqual([told[1], told[4]], [[0], [0]])

    def test_the_active_ones_in_order(self):
        told = ask(create(), *[add_backend(9)] * 8, available_backends(), remove_backend(5), remove_backend(0),
                   available_backends())
        self.assertEqual([told[9], told[12]], [[8, *range(8)], [6, 1, 2, 3, 4, 6, 7]])

    def test_neither_weights_nor_attempts_matter(self):
        told = ask(create(balancer=WEIGHTED), add_backend(1), add_backend(100), ONCE, ONCE, cancel(1),
                   set_weight(0, 50), available_backends())
        self.assertEqual(told[-1], [2, 0, 1])

    def test_each_comes_back_at_its_own_time(self):
        setup = [create(threshold=1, ejection_time=50), *[add_backend()] * 3, *[ONCE] * 3, complete(2, 14),
                 advance(10), complete(0, 14)]
        for time, told in ((0, [1, 1]), (39, [1, 1]), (40, [2, 1, 2]), (49, [2, 1, 2]), (50, [3, 0, 1, 2])):
            self.assertEqual(last(*setup, advance(time), available_backends()), told)


if __name__ == "__main__":
    unittest.main()
