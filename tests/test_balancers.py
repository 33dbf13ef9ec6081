"""How each balancer chooses among the candidates."""

import unittest

from helper import (
    KEYS, add_backend, advance, ask, backends_of, cancel, complete, create, fnv_1a, hash_of, ranked, remove_backend,
    run, set_weight, start_call,
)

ROUND_ROBIN, WEIGHTED, LEAST_OUTSTANDING, HASHING = range(4)
AT_ONCE = 2


class RoundRobin(unittest.TestCase):
    def test_one_behind_another(self):
        setup = [create(), *[add_backend()] * 3, *[start_call()] * 7]
        self.assertEqual(backends_of(setup, range(7)), [0, 1, 2, 0, 1, 2, 0])

    def test_the_weights_and_the_key_do_not_matter(self):
        setup = [create(), add_backend(1), add_backend(100), start_call(9, 0, 5), start_call(9, 0, 5),
                 start_call(9, 0, 5)]
        self.assertEqual(backends_of(setup, range(3)), [0, 1, 0])

    def test_a_removed_backend_is_passed_over(self):
        setup = [create(), *[add_backend()] * 4, start_call(), remove_backend(1), *[start_call()] * 3]
        self.assertEqual(backends_of(setup, range(4)), [0, 2, 3, 0])

    def test_the_smallest_number_if_the_pointer_is_behind_all(self):
        setup = [create(), *[add_backend()] * 3, start_call(), start_call(), remove_backend(2), remove_backend(0),
                 start_call(), add_backend(), start_call()]
        self.assertEqual(backends_of(setup, range(4)), [0, 1, 1, 3])

    def test_the_pointer_stays_behind_the_last_until_one_is_added(self):
        setup = [create(), add_backend(), add_backend(), start_call(), start_call(), add_backend(), start_call()]
        self.assertEqual(backends_of(setup, range(3)), [0, 1, 2])

    def test_used_backends_are_left_out(self):
        setup = [create(), *[add_backend()] * 3, start_call(), start_call(), start_call(),
                 complete(0, 14, AT_ONCE), advance(0), start_call()]
        self.assertEqual(backends_of(setup, range(5)), [0, 1, 2, 1, 2])

    def test_used_backends_are_taken_again_if_no_others_remain(self):
        setup = [create(max_attempts=5), add_backend(), add_backend(), start_call()]
        for attempt in range(3):
            setup += [complete(attempt, 14, AT_ONCE), advance(0)]
        self.assertEqual(backends_of(setup, range(4)), [0, 1, 0, 1])

    def test_a_backend_used_by_another_call_is_not_left_out(self):
        setup = [create(), add_backend(), add_backend(), start_call(), start_call(), start_call()]
        self.assertEqual(backends_of(setup, range(3)), [0, 1, 0])


class Weighted(unittest.TestCase):
    def test_smooth_turns_by_weight(self):
        setup = [create(balancer=WEIGHTED), add_backend(5), add_backend(1), add_backend(1), *[start_call()] * 14]
        self.assertEqual(backends_of(setup, range(14)), [0, 0, 1, 0, 2, 0, 0] * 2)

    def test_ties_go_to_the_smallest_number(self):
        setup = [create(balancer=WEIGHTED), *[add_backend(4)] * 3, *[start_call()] * 6]
        self.assertEqual(backends_of(setup, range(6)), [0, 1, 2, 0, 1, 2])
        setup = [create(balancer=WEIGHTED), add_backend(3), add_backend(1), *[start_call()] * 4]
        self.assertEqual(backends_of(setup, range(4)), [0, 0, 1, 0])

    def test_only_candidates_gain_and_pay(self):
        # Current values: (1, 2, -3) behind the first choice, (2, 1, -3) behind the retry among 0 and 1.
        setup = [create(balancer=WEIGHTED), add_backend(1), add_backend(2), add_backend(3), start_call(),
                 complete(0, 14, AT_ONCE), advance(0), *[start_call()] * 3]
        self.assertEqual(backends_of(setup, range(5)), [2, 1, 0, 1, 2])

    def test_a_single_candidate_keeps_its_current_value(self):
        setup = [create(balancer=WEIGHTED), add_backend(1), add_backend(1), start_call(),
                 complete(0, 14, AT_ONCE), advance(0), start_call(), start_call()]
        self.assertEqual(backends_of(setup, range(4)), [0, 1, 1, 0])

    def test_a_new_weight_holds_from_the_next_choice(self):
        # Behind the first choice the current values are (-1, 1); the new weight makes the sums 4 and 2, then 3 and 3.
        setup = [create(balancer=WEIGHTED), add_backend(1), add_backend(1), start_call(), set_weight(0, 5),
                 *[start_call()] * 3]
        self.assertEqual(backends_of(setup, range(4)), [0, 0, 0, 1])

    def test_an_added_backend_starts_at_zero(self):
        # Current values (-2, 2) behind two choices, then sums 1, 3 and 2.
        setup = [create(balancer=WEIGHTED), add_backend(3), add_backend(1), start_call(), start_call(),
                 add_backend(2), *[start_call()] * 3]
        self.assertEqual(backends_of(setup, range(5)), [0, 0, 1, 0, 2])


class LeastOutstanding(unittest.TestCase):
    def test_ties_go_to_the_smallest_number(self):
        setup = [create(balancer=LEAST_OUTSTANDING), *[add_backend()] * 3, *[start_call()] * 6]
        self.assertEqual(backends_of(setup, range(6)), [0, 1, 2, 0, 1, 2])

    def test_a_finished_attempt_no_longer_counts(self):
        for status in (0, 5, 14):
            setup = [create(balancer=LEAST_OUTSTANDING), *[add_backend()] * 3, *[start_call(9, 0)] * 3,
                     complete(1, status), start_call(), start_call()]
            self.assertEqual(backends_of(setup, range(5)), [0, 1, 2, 1, 0])

    def test_cancelled_attempts_no_longer_count(self):
        setup = [create(balancer=LEAST_OUTSTANDING), *[add_backend()] * 3, *[start_call()] * 3, cancel(2),
                 start_call(), start_call()]
        self.assertEqual(backends_of(setup, range(5)), [0, 1, 2, 2, 0])

    def test_attempts_at_their_deadline_no_longer_count(self):
        setup = [create(balancer=LEAST_OUTSTANDING), *[add_backend()] * 3, start_call(50), start_call(10),
                 start_call(50), advance(10), start_call(), start_call()]
        self.assertEqual(backends_of(setup, range(5)), [0, 1, 2, 1, 0])

    def test_hedged_attempts_that_a_success_cancels_no_longer_count(self):
        setup = [create(balancer=LEAST_OUTSTANDING, hedge_delay=10), *[add_backend()] * 3, start_call(), advance(20),
                 complete(1, 0), *[start_call()] * 4]
        self.assertEqual(backends_of(setup, range(7)), [0, 1, 2, 0, 1, 2, 0])

    def test_an_attempt_is_over_before_its_transparent_retry_chooses(self):
        # Both backends are used; 0 has one running attempt of another call, 1 had only the refused one.
        setup = [create(balancer=LEAST_OUTSTANDING), add_backend(), add_backend(), start_call(),
                 complete(0, 14, AT_ONCE), start_call(), advance(0), complete(2, 100)]
        self.assertEqual(backends_of(setup, range(4)), [0, 0, 1, 1])

    def test_used_backends_are_left_out(self):
        setup = [create(balancer=LEAST_OUTSTANDING), add_backend(), add_backend(), *[start_call()] * 2,
                 complete(0, 14, AT_ONCE), advance(0), start_call()]
        self.assertEqual(backends_of(setup, range(4)), [0, 1, 1, 0])


class Hashing(unittest.TestCase):
    def test_the_hash_of_these_tests(self):
        self.assertEqual(fnv_1a(b"foobar"), 0xBF9CF968)
        self.assertEqual(hash_of(0x626F6F66, ord("a")), fnv_1a(b"fooba"))

    def test_the_greatest_hash_for_the_key(self):
        setup = [create(balancer=HASHING), *[add_backend()] * 8, *[start_call(9, 0, key) for key in KEYS]]
        expected = [ranked(key, range(8))[0] for key in KEYS]
        self.assertEqual(backends_of(setup, range(len(KEYS))), expected)
        self.assertGreater(len(set(expected)), 3)

    def test_the_same_key_goes_to_the_same_backend(self):
        setup = [create(balancer=HASHING), *[add_backend()] * 8, *[start_call(9, 0, 77)] * 3]
        self.assertEqual(len(set(backends_of(setup, range(3)))), 1)

    def test_hedged_attempts_go_down_the_ranking_and_begin_again(self):
        for key in KEYS:
            setup = [create(balancer=HASHING, max_attempts=5, hedge_delay=1), *[add_backend()] * 3,
                     start_call(100, 1, key), advance(4)]
            order = ranked(key, range(3))
            self.assertEqual(backends_of(setup, range(5)), order + [order[0]] * 2)

    def test_a_removed_backend_is_not_chosen(self):
        for key in KEYS:
            order = ranked(key, range(4))
            setup = [create(balancer=HASHING), *[add_backend()] * 4, remove_backend(order[0]), start_call(9, 0, key)]
            self.assertEqual(backends_of(setup, [0]), order[1:2])


class NoActiveBackend(unittest.TestCase):
    def test_a_retry_ends_the_call(self):
        for balancer in range(4):
            told = ask(create(balancer=balancer), add_backend(), start_call(), complete(0, 14, 32),
                       remove_backend(0), advance(100), run(), [10, 1, 0, 0], [11, 1, 1, 0], [8, 0, 0])
            self.assertEqual(told[5:], [[1, 100], [0, 100], [15, 1000, 1, 1, 0, 0, 0, 30], [-2], [-33]])

    def test_a_backend_that_comes_in_time_saves_it(self):
        setup = [create(), add_backend(), start_call(), complete(0, 14, 32), remove_backend(0), advance(29),
                 add_backend(), advance(1)]
        self.assertEqual(backends_of(setup, range(2)), [0, 1])


if __name__ == "__main__":
    unittest.main()
