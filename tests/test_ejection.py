"""When a failing backend is ejected, for how long, and what is chosen meanwhile."""

import unittest

from helper import add_backend, advance, ask, attempt_info, backends_of, complete, create, remove_backend, start_call

LONG = 100000
# Calls that aren't idempotent end with the first failure, so that each is one failure of one backend.
ONCE = start_call(LONG, 0)
AGAIN = start_call(LONG, 1)
AT_ONCE = 2


def failing(first, count, status=14):
    """Calls one behind another that each fail; their attempts are numbered from first."""
    calls = []
    for attempt in range(first, first + count):
        calls += [ONCE, complete(attempt, status)]
    return calls


class Threshold(unittest.TestCase):
    def ejected_after(self, threshold, statuses):
        """Whether 0, the only backend at first, is ejected once its attempts have ended like this."""
        setup = [create(threshold=threshold), add_backend()]
        for attempt, status in enumerate(statuses):
            setup += [start_call(LONG, 0), complete(attempt, status, 1)]
        attempts = len(statuses)
        chosen = backends_of([*setup, add_backend(), ONCE, ONCE], [attempts, attempts + 1])
        # Round robin goes to 1 first, then to 0 if that is available.
        return chosen == [1, 1]

    def test_so_many_failures_one_behind_another(self):
        for threshold in (1, 2, 3, 10):
            self.assertFalse(self.ejected_after(threshold, [14] * (threshold - 1)))
            self.assertTrue(self.ejected_after(threshold, [14] * threshold))

    def test_zero_means_never(self):
        self.assertFalse(self.ejected_after(0, [14] * 20))

    def test_only_unknown_and_unavailable_are_failures(self):
        self.assertTrue(self.ejected_after(2, [2, 14]))
        self.assertTrue(self.ejected_after(2, [14, 2]))
        for status in (1, 3, 4, 5, 6, 7, 8, 9, 10, 11, 12, 13, 15, 16):
            self.assertFalse(self.ejected_after(2, [status] * 4), status)
            self.assertFalse(self.ejected_after(2, [14, status]), status)

    def test_a_success_begins_the_count_anew(self):
        self.assertFalse(self.ejected_after(2, [14, 0, 14]))
        self.assertTrue(self.ejected_after(2, [14, 0, 14, 14]))

    def test_other_statuses_leave_the_count(self):
        self.assertTrue(self.ejected_after(2, [14, 5, 14]))
        self.assertTrue(self.ejected_after(2, [2, 16, 1, 2]))

    def test_refusals_are_not_failures(self):
        setup = [create(threshold=1), add_backend(), ONCE, complete(0, 100), complete(1, 100, 1), add_backend(),
                 ONCE, ONCE]
        self.assertEqual(backends_of(setup, [2, 3]), [1, 0])

    def test_failures_count_in_every_call_and_retry(self):
        setup = [create(threshold=2, max_attempts=5), add_backend(), AGAIN, complete(0, 14, AT_ONCE), advance(0),
                 complete(1, 14, 1), add_backend(), ONCE, ONCE]
        self.assertEqual(backends_of(setup, [2, 3]), [1, 1])

    def test_cancelled_attempts_and_reached_deadlines_are_not_failures(self):
        setup = [create(threshold=1), add_backend(), start_call(5), start_call(), advance(5), [6, 1, 1, 0],
                 add_backend(), ONCE, ONCE]
        self.assertEqual(backends_of(setup, [2, 3]), [1, 0])


class Until(unittest.TestCase):
    def chosen_at(self, setup, attempts, time_left):
        return backends_of([*setup, advance(time_left), ONCE, ONCE], [attempts, attempts + 1])

    def test_available_again_when_the_time_is_reached(self):
        setup = [create(threshold=1, ejection_time=50), add_backend(), add_backend(), advance(7), *failing(0, 1)]
        self.assertEqual(self.chosen_at(setup, 1, 0), [1, 1])
        self.assertEqual(self.chosen_at(setup, 1, 49), [1, 1])
        self.assertEqual(self.chosen_at(setup, 1, 50), [1, 0])

    def test_the_shortest_ejection(self):
        setup = [create(threshold=1, ejection_time=1), add_backend(), add_backend(), *failing(0, 1)]
        self.assertEqual(self.chosen_at(setup, 1, 0), [1, 1])
        self.assertEqual(self.chosen_at(setup, 1, 1), [1, 0])

    def test_each_ejection_is_longer_by_the_time(self):
        setup = [create(threshold=1, ejection_time=50), add_backend(), *failing(0, 1), advance(50), *failing(1, 1),
                 advance(100), *failing(2, 1), add_backend()]
        self.assertEqual(self.chosen_at(setup, 3, 149), [1, 1])
        self.assertEqual(self.chosen_at(setup, 3, 150), [1, 0])

    def test_the_second_ejection_takes_twice_the_time(self):
        setup = [create(threshold=1, ejection_time=50), add_backend(), *failing(0, 1), advance(50), *failing(1, 1),
                 add_backend()]
        self.assertEqual(self.chosen_at(setup, 2, 99), [1, 1])
        self.assertEqual(self.chosen_at(setup, 2, 100), [1, 0])

    def test_an_ejection_sets_the_failures_to_zero(self):
        setup = [create(threshold=2, ejection_time=50), add_backend(), *failing(0, 2), advance(50), *failing(2, 1),
                 add_backend()]
        self.assertEqual(self.chosen_at(setup, 3, 0), [1, 0])
        setup = [create(threshold=2, ejection_time=50), add_backend(), *failing(0, 2), advance(50), *failing(2, 2),
                 add_backend()]
        self.assertEqual(self.chosen_at(setup, 4, 0), [1, 1])

    def test_failures_while_ejected_do_not_make_it_longer(self):
        # There is room for another ejection, but 0 is not available when its second attempt fails.
        setup = [create(threshold=1, ejection_time=50), add_backend(), ONCE, ONCE, add_backend(), add_backend(),
                 complete(0, 14), advance(10), complete(1, 14)]
        told = backends_of([*setup, advance(39), *[ONCE] * 3], range(2, 5))
        self.assertEqual(told, [1, 2, 1])
        told = backends_of([*setup, advance(40), *[ONCE] * 3], range(2, 5))
        self.assertEqual(told, [1, 2, 0])

    def test_failures_while_ejected_count_but_do_not_eject(self):
        # Three attempts run on 0; the first failure ejects it until 50, the others fall into the ejection.
        setup = [create(threshold=1, ejection_time=50), add_backend(), ONCE, ONCE, ONCE, complete(0, 14),
                 advance(10), complete(1, 14), complete(2, 14), add_backend()]
        self.assertEqual(self.chosen_at(setup, 3, 39), [1, 1])
        self.assertEqual(self.chosen_at(setup, 3, 40), [1, 0])

    def test_failures_while_ejected_add_to_those_afterwards(self):
        # The failure while ejected is the first of two, so a single one behind the ejection ejects again.
        setup = [create(threshold=2, ejection_time=50), add_backend(), ONCE, ONCE, ONCE, complete(0, 14),
                 complete(1, 14), complete(2, 14), advance(50), *failing(3, 1), add_backend()]
        self.assertEqual(self.chosen_at(setup, 4, 0), [1, 1])


class Limit(unittest.TestCase):
    def ejections(self, backends, percent):
        """How many of the backends are left out when each has failed once."""
        setup = [create(threshold=1, ejection_percent=percent), *[add_backend()] * backends, *[ONCE] * backends]
        setup += [complete(attempt, 14) for attempt in range(backends)]
        later = range(backends, 3 * backends)
        return backends - len(set(backends_of([*setup, *[ONCE] * (2 * backends)], later)))

    def test_no_more_than_the_share_rounded_down(self):
        self.assertEqual(self.ejections(2, 49), 0)
        self.assertEqual(self.ejections(2, 50), 1)
        self.assertEqual(self.ejections(2, 99), 1)
        self.assertEqual(self.ejections(3, 33), 0)
        self.assertEqual(self.ejections(3, 34), 1)
        self.assertEqual(self.ejections(3, 66), 1)
        self.assertEqual(self.ejections(3, 67), 2)
        self.assertEqual(self.ejections(8, 12), 0)
        self.assertEqual(self.ejections(8, 13), 1)
        self.assertEqual(self.ejections(8, 0), 0)
        self.assertEqual(self.ejections(8, 99), 7)

    def test_one_that_found_no_room_is_ejected_with_a_later_failure(self):
        # 0 is ejected until 100 and leaves no room for 1, which fails twice; behind 100 its next failure ejects it.
        setup = [create(threshold=2, ejection_time=100, ejection_percent=50), add_backend(), add_backend(),
                 *[ONCE] * 6, complete(0, 14), complete(2, 14), complete(1, 14), complete(3, 14), advance(99)]
        self.assertEqual(backends_of([*setup, ONCE, ONCE], [6, 7]), [1, 1])
        self.assertEqual(backends_of([*setup, complete(5, 14), ONCE, ONCE], [6, 7]), [1, 1])
        self.assertEqual(backends_of([*setup, advance(1), ONCE, ONCE], [6, 7]), [0, 1])
        self.assertEqual(backends_of([*setup, advance(1), complete(5, 14), ONCE, ONCE], [6, 7]), [0, 0])

    def test_removed_backends_do_not_count(self):
        # 0 is ejected and then removed: of the three that stay, one may be ejected, and none is.
        setup = [create(threshold=1, ejection_percent=34), *[add_backend()] * 4, *[ONCE] * 4, complete(0, 14),
                 remove_backend(0), complete(1, 14)]
        self.assertEqual(set(backends_of([*setup, *[ONCE] * 6], range(4, 10))), {2, 3})
        # With one fewer the share of two rounds down to none.
        setup = [create(threshold=1, ejection_percent=34), *[add_backend()] * 3, *[ONCE] * 3, remove_backend(0),
                 complete(1, 14)]
        self.assertEqual(set(backends_of([*setup, *[ONCE] * 6], range(3, 9))), {1, 2})

    def test_added_backends_count(self):
        setup = [create(threshold=1, ejection_percent=34), *[add_backend()] * 2, ONCE, ONCE, add_backend(),
                 complete(0, 14)]
        self.assertEqual(set(backends_of([*setup, *[ONCE] * 6], range(2, 8))), {1, 2})

    def test_a_removed_backend_is_not_ejected(self):
        # The attempts on 0 fail as it is removed; that leaves room for the ejection of 1.
        setup = [create(threshold=1, ejection_percent=50), *[add_backend()] * 3, *[ONCE] * 3, remove_backend(0),
                 complete(1, 14)]
        self.assertEqual(set(backends_of([*setup, *[ONCE] * 6], range(3, 9))), {2})


class Candidates(unittest.TestCase):
    def test_all_active_ones_if_none_is_available(self):
        setup = [create(threshold=1), add_backend(), add_backend(), *failing(0, 2), ONCE, ONCE]
        self.assertEqual(backends_of(setup, range(2, 4)), [0, 1])

    def test_all_active_ones_without_the_used_ones(self):
        setup = [create(threshold=1), *[add_backend()] * 3, remove_backend(2), AGAIN, complete(0, 14, AT_ONCE),
                 *failing(1, 1), advance(0)]
        self.assertEqual(backends_of(setup, [0, 1, 2]), [0, 1, 1])

    def test_an_available_one_that_was_used_comes_before_an_ejected_one_that_was_not(self):
        # 1 is ejected; the call has used 0, which alone is available.
        setup = [create(threshold=2), add_backend(), add_backend(), AGAIN, *[ONCE] * 3, complete(1, 14),
                 complete(3, 14), complete(0, 14, AT_ONCE), advance(0)]
        self.assertEqual(backends_of(setup, [0, 1, 3, 4]), [0, 1, 1, 0])

    def test_each_balancer_passes_over_an_ejected_backend(self):
        for balancer in range(4):
            setup = [create(balancer=balancer, threshold=1), *[add_backend()] * 3, ONCE]
            first = backends_of(setup, [0])[0]
            told = ask(*setup, complete(0, 14), *[ONCE] * 6, *[attempt_info(number) for number in range(1, 7)])
            self.assertNotIn(first, [answer[1] for answer in told[-6:]])

    def test_the_weights_of_ejected_backends_rest(self):
        # 0 is chosen and ejected at current values (-1, 1); 1 alone keeps 1 until 0 comes back and 1 is first.
        setup = [create(balancer=1, threshold=1, ejection_time=50), add_backend(), add_backend(), *failing(0, 1),
                 ONCE, ONCE, advance(50), ONCE, ONCE]
        self.assertEqual(backends_of(setup, range(5)), [0, 1, 1, 1, 0])

    def test_an_ejected_backend_keeps_its_running_attempts(self):
        told = ask(create(threshold=1), add_backend(), ONCE, ONCE, complete(0, 14), attempt_info(1), complete(1, 0),
                   attempt_info(1))
        self.assertEqual(told[5:], [[1, 0, 1, 0, LONG, 0, 0], [1], [1, 0, 1, 0, LONG, 1, 0]])


if __name__ == "__main__":
    unittest.main()
