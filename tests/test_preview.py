"""preview_choice: the backend that a call started right behind it takes, for each of the four balancers."""

import unittest

from helper import (
    KEYS, MOST, NOTHING, add_backend, advance, ask, attempt_info, available_backends, backends_of, cancel,
    client_status, complete, create, last, preview_choice, ranked, remove_backend, set_weight, start_call,
)

ROUND_ROBIN, WEIGHTED, LEAST_OUTSTANDING, HASHING = range(4)
AT_ONCE = 2
ONCE = start_call(100000, 0)


class Preview(unittest.TestCase):
    def preview(self, setup, key=0):
        """The backend foretold, which is also the one that a call takes right behind it or in its place."""
        told = ask(*setup, client_status(), preview_choice(key), preview_choice(key), client_status())
        self.assertEqual(told[-4], told[-1])
        self.assertEqual(told[-3], told[-2])
        self.assertEqual(len(told[-2]), 1)
        foretold = told[-2][0]
        # The attempt is the last one of all, as the calls of these tests start one each.
        for calls in ([start_call(1000, 0, key)], [preview_choice(key), start_call(1000, 0, key)]):
            call = ask(*setup, *calls)[-1][0]
            chosen = [answer[1] for answer in self.attempts(setup, calls) if answer[0] == call]
            self.assertEqual(chosen, [foretold])
        return foretold

    def attempts(self, setup, calls):
        told = ask(*setup, *calls, *[attempt_info(number) for number in range(20)])[-20:]
        return [answer for answer in told if len(answer) > 1]


class RoundRobin(Preview):
    def test_the_backend_at_the_pointer(self):
        for started, backend in ((0, 0), (1, 1), (2, 2), (3, 0), (4, 1)):
            setup = [create(), *[add_backend()] * 3, *[ONCE] * started]
            self.assertEqual(self.preview(setup), backend)

    def test_the_smallest_number_if_the_pointer_is_behind_all(self):
        setup = [create(), *[add_backend()] * 3, *[ONCE] * 3]
        self.assertEqual(self.preview([*setup, remove_backend(0)]), 1)
        self.assertEqual(self.preview([*setup, add_backend()]), 3)

    def test_removed_and_ejected_backends_are_passed_over(self):
        setup = [create(threshold=1, ejection_time=50), *[add_backend()] * 4, ONCE, ONCE, complete(1, 14), ONCE, ONCE,
                 ONCE]
        self.assertEqual(self.preview(setup), 2)
        self.assertEqual(self.preview([*setup, advance(49)]), 2)
        self.assertEqual(self.preview([*setup, advance(50)]), 1)
        self.assertEqual(self.preview([*setup, remove_backend(2)]), 3)

    def test_all_ejected(self):
        setup = [create(threshold=1), *[add_backend()] * 3, *[ONCE] * 4]
        setup += [complete(attempt, 14) for attempt in range(3)]
        self.assertEqual(last(*setup, available_backends()), [0])
        self.assertEqual(self.preview(setup), 1)
        self.assertEqual(self.preview([*setup, ONCE]), 2)

    def test_the_key_does_not_matter(self):
        setup = [create(), *[add_backend()] * 3, ONCE]
        self.assertEqual([self.preview(setup, key) for key in KEYS], [1] * len(KEYS))

    def test_backends_that_other_calls_used_are_not_left_out(self):
        setup = [create(), add_backend(), add_backend(), start_call(), complete(0, 14, AT_ONCE)]
        self.assertEqual(self.preview([*setup, ONCE]), 0)


class Weighted(Preview):
    def test_smooth_turns_by_weight(self):
        for started, backend in enumerate([0, 0, 1, 0, 2, 0, 0, 0]):
            setup = [create(balancer=WEIGHTED), add_backend(5), add_backend(1), add_backend(1), *[ONCE] * started]
            self.assertEqual(self.preview(setup), backend)

    def test_ties_go_to_the_smallest_number(self):
        setup = [create(balancer=WEIGHTED), *[add_backend(4)] * 3]
        self.assertEqual(self.preview(setup), 0)
        self.assertEqual(self.preview([*setup, ONCE]), 1)
        # Current values (-1, 1), then sums 2 and 2.
        setup = [create(balancer=WEIGHTED), add_backend(3), add_backend(1), ONCE]
        self.assertEqual(self.preview(setup), 0)

    def test_a_new_weight(self):
        setup = [create(balancer=WEIGHTED), add_backend(3), add_backend(4)]
        self.assertEqual(self.preview(setup), 1)
        self.assertEqual(self.preview([*setup, set_weight(0, 4)]), 0)
        self.assertEqual(self.preview([*setup, set_weight(1, 2)]), 0)

    def test_ejected_backends(self):
        setup = [create(balancer=WEIGHTED, threshold=1, ejection_time=50), add_backend(9), add_backend(1),
                 add_backend(2), ONCE, complete(0, 14)]
        self.assertEqual(self.preview(setup), 2)
        # The others' current values are 1 and 2, that of 0 is -3: it has the greatest sum again at once.
        self.assertEqual(self.preview([*setup, advance(49)]), 2)
        self.assertEqual(self.preview([*setup, advance(50)]), 0)

    def test_all_ejected(self):
        setup = [create(balancer=WEIGHTED, threshold=1), add_backend(1), add_backend(2), ONCE, ONCE, complete(0, 14),
                 complete(1, 14)]
        self.assertEqual(last(*setup, available_backends()), [0])
        self.assertEqual(self.preview(setup), 1)

    def test_a_removed_backend(self):
        setup = [create(balancer=WEIGHTED), add_backend(1), add_backend(9), add_backend(2), remove_backend(1)]
        self.assertEqual(self.preview(setup), 2)


class LeastOutstanding(Preview):
    def test_the_fewest_attempts(self):
        setup = [create(balancer=LEAST_OUTSTANDING), *[add_backend()] * 3]
        for started, backend in enumerate([0, 1, 2, 0, 1]):
            self.assertEqual(self.preview([*setup, *[ONCE] * started]), backend)
        self.assertEqual(self.preview([*setup, *[ONCE] * 3, complete(2, 0)]), 2)
        self.assertEqual(self.preview([*setup, *[ONCE] * 4, complete(1, 5)]), 1)
        self.assertEqual(self.preview([*setup, *[ONCE] * 4, cancel(2)]), 2)

    def test_ties_go_to_the_smallest_number(self):
        setup = [create(balancer=LEAST_OUTSTANDING), *[add_backend(number) for number in (1, 50, 100)], *[ONCE] * 3]
        self.assertEqual(self.preview([*setup, complete(2, 0), complete(1, 0)]), 1)

    def test_ejected_and_removed_backends(self):
        setup = [create(balancer=LEAST_OUTSTANDING, threshold=1, ejection_time=50), *[add_backend()] * 3, *[ONCE] * 3,
                 complete(0, 14)]
        self.assertEqual(self.preview(setup), 1)
        self.assertEqual(self.preview([*setup, remove_backend(1)]), 2)
        self.assertEqual(self.preview([*setup, advance(49)]), 1)
        self.assertEqual(self.preview([*setup, advance(50)]), 0)

    def test_all_ejected(self):
        setup = [create(balancer=LEAST_OUTSTANDING, threshold=1), *[add_backend()] * 2, *[ONCE] * 3, complete(0, 14),
                 complete(1, 14)]
        self.assertEqual(last(*setup, available_backends()), [0])
        self.assertEqual(self.preview(setup), 1)


class Hashing(Preview):
    def test_the_greatest_hash(self):
        setup = [create(balancer=HASHING), *[add_backend()] * 8]
        expected = [ranked(key, range(8))[0] for key in KEYS]
        self.assertEqual([self.preview(setup, key) for key in KEYS], expected)
        self.assertGreater(len(set(expected)), 3)

    def test_attempts_and_weights_do_not_matter(self):
        setup = [create(balancer=HASHING), add_backend(1), add_backend(100), add_backend(50)]
        for key in KEYS:
            best = ranked(key, range(3))[0]
            self.assertEqual(self.preview([*setup, *[start_call(9, 0, key)] * 3, set_weight(best, 1)], key), best)

    def test_removed_and_ejected_backends(self):
        for key in KEYS:
            order = ranked(key, range(4))
            setup = [create(balancer=HASHING, threshold=1, ejection_time=50), *[add_backend()] * 4]
            self.assertEqual(self.preview([*setup, remove_backend(order[0])], key), order[1])
            setup += [start_call(9, 0, key), complete(0, 14)]
            self.assertEqual(self.preview(setup, key), order[1])
            self.assertEqual(self.preview([*setup, advance(49)], key), order[1])
            self.assertEqual(self.preview([*setup, advance(50)], key), order[0])

    def test_all_ejected(self):
        for key in KEYS:
            setup = [create(balancer=HASHING, threshold=1), *[add_backend()] * 2]
            setup += [start_call(9, 0, key), complete(0, 14), start_call(9, 0, key), complete(1, 14)]
            self.assertEqual(last(*setup, available_backends()), [0])
            self.assertEqual(self.preview(setup, key), ranked(key, range(2))[0])


class AnyBalancer(Preview):
    def test_no_active_backends(self):
        for balancer in range(4):
            told = ask(create(balancer=balancer), preview_choice(0), preview_choice(MOST), add_backend(),
                       preview_choice(MOST), remove_backend(0), preview_choice(0))
            self.assertEqual([*told[1:3], told[4], told[6]], [NOTHING, NOTHING, [0], NOTHING])

    def test_the_only_backend(self):
        for balancer in range(4):
            for key in (0, MOST):
                setup = [create(balancer=balancer, threshold=1), add_backend()]
                self.assertEqual(self.preview(setup, key), 0)
                self.assertEqual(self.preview([*setup, ONCE, complete(0, 14)], key), 0)

    def test_many_previews_move_nothing(self):
        for balancer in range(4):
            setup = [create(balancer=balancer), add_backend(1), add_backend(2), add_backend(3)]
            calls = [start_call(9, 0, key) for key in KEYS[:7]]
            plain = backends_of([*setup, *calls], range(7))
            previews = [preview_choice(key) for key in KEYS]
            self.assertEqual(backends_of([*setup, *previews, *calls, *previews], range(7)), plain)


if __name__ == "__main__":
    unittest.main()
