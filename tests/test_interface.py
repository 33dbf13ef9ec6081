"""How calls are handed in and answers are given back."""

import random
import unittest

from hedgedcalls.clients import answers
from helper import (
    MISSING, MOST, NO_CLIENT, OUTSIDE, add_backend, advance, ask, attempt_info, available_backends, backend_info,
    backoff_bound, budget, call_attempts, call_info, cancel, client_status, complete, create, create_with, flat,
    hash_call, next_timer, operation, parameters, preview_choice, ranking, remove_backend, run, running_attempts,
    set_weight, start_call, totals,
)

EVERY_CALL_BUT_CREATE = [
    add_backend(), remove_backend(0), set_weight(0, 1), start_call(), complete(0, 0), cancel(0), advance(0),
    next_timer(), run(), call_info(0), attempt_info(0), call_attempts(0), backend_info(0), running_attempts(),
    preview_choice(0), ranking(0), hash_call(0, 0), available_backends(), backoff_bound(1), budget(), totals(),
    client_status(),
]
WRONG_CALLS_BUT_CREATE = [
    add_backend(0), remove_backend(9), set_weight(9, 0), start_call(0, 2, 0), complete(9, 17, 100003), cancel(9),
    advance(1000001), run(17), call_info(9), attempt_info(9), call_attempts(9), backend_info(9), hash_call(0, 256),
    backoff_bound(0), backoff_bound(11),
]
ERRORS = {-11, -2, -22, -16, -28, -33}
# How many numbers each call has (create and run have as many as are handed in) and how many are answered; None
# where the first of these tells how many others there are.
NUMBERS = {
    1: 1, 2: 1, 3: 2, 4: 3, 5: 3, 6: 1, 7: 1, 8: 0, 10: 1, 11: 1, 12: 1, 13: 1, 14: 0, 15: 1, 16: 1, 17: 2, 18: 0,
    19: 1, 20: 0, 21: 0, 22: 0,
}
ANSWERED = {
    0: 1, 1: 1, 2: 1, 3: 1, 4: 2, 5: 1, 6: 1, 7: 2, 8: 3, 9: 2, 10: 8, 11: 7, 12: None, 13: 8, 14: None, 15: 1,
    16: None, 17: 1, 18: None, 19: 1, 20: 2, 21: 7, 22: 6,
}


class HandedIn(unittest.TestCase):
    def test_a_list_written_out_number_by_number(self):
        calls = [
            0, 13, 1, 0, 3, 100, 1000, 200, 0, 2, 1000, 50, 10, 100, 14, 0,
            1, 1, 5, 0,
            3, 2, 0, 7, 0,
            4, 3, 1000, 1, 7, 0,
            8, 0, 0,
            9, 2, 14, 0, 0,
            10, 1, 0, 0,
            11, 1, 0, 0,
            7, 1, 5, 0,
            6, 1, 0, 0,
            5, 3, 0, 0, 0, 0,
            2, 1, 0, 0,
        ]
        told = [
            1, 0,
            1, 0,
            1, 5,
            2, 0, 0,
            3, 1000, 0, 0,
            2, 1, 75,
            8, 0, 1000, 2, 1, 0, 0, 0, 0,
            7, 0, 0, 1, 0, 1000, 1, 14,
            2, 0, 80,
            1, 1,
            1, -16,
            1, 0,
        ]
        self.assertEqual(answers(calls), told)

    def test_the_calls_that_only_tell_written_out_number_by_number(self):
        calls = [
            0, 13, 1, 1, 3, 100, 1000, 200, 10, 1, 50, 100, 3, 100, 14, 0,
            1, 1, 5, 0,
            1, 1, 2, 0,
            4, 3, 1000, 1, 7, 0,
            5, 3, 0, 14, 7, 0,
            7, 1, 15, 0,
            12, 1, 0, 0,
            13, 1, 0, 0,
            14, 0, 0,
            15, 1, 7, 0,
            16, 1, 7, 0,
            17, 2, 7, 1, 0,
            18, 0, 0,
            19, 1, 2, 0,
            20, 0, 0,
            21, 0, 0,
            22, 0, 0,
        ]
        told = [
            1, 0,
            1, 0,
            1, 1,
            2, 0, 0,
            1, 0,
            2, 2, 15,
            4, 3, 0, 1, 2,
            8, 1, 5, 0, 0, 1, 51, 1, -2,
            3, 2, 1, 2,
            1, 1,
            3, 2, 1, 0,
            1, 1058732633,
            2, 1, 1,
            1, 200,
            2, 2000, 1,
            7, 1, 0, 0, 3, 1, 1, 0,
            6, 15, 1, 0, 2, 2, 2,
        ]
        self.assertEqual(answers(calls), told)

    def test_each_answer_is_as_long_as_told(self):
        dice = random.Random(7)
        seen = set()
        for number in range(300):
            calls = [create(dice.randint(0, 9), dice.randint(0, 3), hedge_delay=20, threshold=1), add_backend(3)]
            while len(calls) < 60:
                calls.append(self.any_call(dice))
            for call, answer in zip(calls, ask(*calls)):
                self.assertTrue(answer[0] in ERRORS and len(answer) == 1 or self.is_answer(call[0], answer),
                                (call, answer))
                seen.add((call[0], answer[0] < 0))
        self.assertEqual({number for number, failed in seen if not failed}, set(range(23)))
        self.assertEqual({number for number, failed in seen if failed}, set(range(20)) - {9, 14, 16, 18})

    def any_call(self, dice):
        number = dice.choice((0, *[*range(1, 23)] * 3))
        if number == 0:
            return create(dice.randint(0, 9), dice.choice((0, 1, 2, 3, 4)))
        if number == 9:
            return run(*[dice.choice((0, 2, 14, 100)) for status in range(dice.randint(0, 5))])
        few = (0, 0, 1, 1, 2, 14, 100)
        many = (0, 1, 10, 11, 255, 256, 1000, 1000000, 1000001, MOST)
        return operation(number, *[dice.choice(dice.choice((few, many))) for place in range(NUMBERS[number])])

    def is_answer(self, number, answer):
        length = ANSWERED[number] or 1 + answer[0]
        # Only the last number of backend_info may be below 0.
        above = answer[:7] if number == 13 else answer
        return len(answer) == length and min(above) >= 0

    def test_the_list_handed_in_stays_the_same(self):
        calls = flat([create(), *EVERY_CALL_BUT_CREATE, run(0, 14, 100), advance(5000)])
        before = list(calls)
        answers(calls)
        self.assertEqual(calls, before)

    def test_a_second_use_starts_anew(self):
        calls = flat([create(), add_backend(), start_call(), complete(0, 14), run(14, 14), *EVERY_CALL_BUT_CREATE])
        first = answers(calls)
        self.assertEqual(answers(calls), first)
        self.assertEqual(ask(add_backend(), client_status(), totals()), [NO_CLIENT] * 3)
        self.assertEqual(ask(create(seed=3), client_status(), totals(), backend_info(0))[1:],
                         [[0, 3, 0, 0, 0, 0], [0] * 7, MISSING])

    def test_the_answers_are_a_new_list_of_plain_whole_numbers(self):
        calls = flat([create(balancer=1), add_backend(), add_backend(), start_call(), complete(0, 100),
                      *EVERY_CALL_BUT_CREATE])
        told = answers(calls)
        self.assertIs(type(told), list)
        self.assertEqual({type(number) for number in told}, {int})
        self.assertIsNot(answers(calls), told)

    def test_sixty_calls_with_the_most_statuses(self):
        calls = [create(max_attempts=5, multiplier=100), add_backend()]
        calls += [start_call(100000, 1, 4294967295)] * 20
        calls += [run(*[100] * 40)] * 38
        told = ask(*calls)
        self.assertEqual(len(told), 60)
        self.assertEqual([len(answer) for answer in told[22:]], [2] * 38)


class NoClient(unittest.TestCase):
    def test_every_call_but_create(self):
        self.assertEqual(ask(*EVERY_CALL_BUT_CREATE), [NO_CLIENT] * len(EVERY_CALL_BUT_CREATE))

    def test_ahead_of_every_other_error(self):
        self.assertEqual(ask(*WRONG_CALLS_BUT_CREATE), [NO_CLIENT] * len(WRONG_CALLS_BUT_CREATE))

    def test_after_a_create_that_failed(self):
        told = ask(create(balancer=4), *EVERY_CALL_BUT_CREATE)
        self.assertEqual(told, [OUTSIDE] + [NO_CLIENT] * len(EVERY_CALL_BUT_CREATE))

    def test_after_a_create_that_succeeded_it_is_not_answered(self):
        told = ask(create(), *WRONG_CALLS_BUT_CREATE)
        self.assertNotIn(NO_CLIENT, told)


class Create(unittest.TestCase):
    def created(self, seed=0, balancer=0, policy=None):
        policy = parameters() if policy is None else policy
        told = ask(create_with(seed, balancer, policy), add_backend())
        self.assertIn(told, ([[0], [0]], [OUTSIDE, NO_CLIENT]))
        return told[0] == [0]

    def test_seed(self):
        self.assertTrue(self.created(seed=0))
        self.assertTrue(self.created(seed=2147483647))
        self.assertFalse(self.created(seed=2147483648))
        self.assertFalse(self.created(seed=4294967295))

    def test_balancer(self):
        for balancer in range(4):
            self.assertTrue(self.created(balancer=balancer))
        self.assertFalse(self.created(balancer=4))
        self.assertFalse(self.created(balancer=4294967295))

    def test_each_parameter_at_its_edges(self):
        ranges = {
            "max_attempts": (1, 5),
            "initial_backoff": (0, 10000),
            "max_backoff": (0, 100000),
            "multiplier": (100, 1000),
            "hedge_delay": (0, 10000),
            "threshold": (0, 10),
            "ejection_time": (1, 100000),
            "ejection_percent": (0, 100),
            "max_tokens": (0, 1000),
            "refund": (0, 1000),
        }
        for name, (least, greatest) in ranges.items():
            with self.subTest(name):
                self.assertTrue(self.created(policy=parameters(**{name: least})))
                self.assertTrue(self.created(policy=parameters(**{name: greatest})))
                self.assertFalse(self.created(policy=parameters(**{name: greatest + 1})))
                self.assertFalse(self.created(policy=parameters(**{name: 4294967295})))
                if least > 0:
                    self.assertFalse(self.created(policy=parameters(**{name: least - 1})))

    def test_how_many_parameters(self):
        ten = parameters(retryable=())
        self.assertEqual(len(ten), 10)
        self.assertFalse(self.created(policy=[]))
        self.assertFalse(self.created(policy=ten[:9]))
        self.assertTrue(self.created(policy=ten))
        self.assertTrue(self.created(policy=ten + [14] * 16))
        self.assertFalse(self.created(policy=ten + [14] * 17))
        self.assertFalse(self.created(policy=ten + [14] * 30))

    def test_retryable_statuses(self):
        for status in range(1, 17):
            self.assertTrue(self.created(policy=parameters(retryable=(status,))))
        for status in (0, 17, 100, 4294967295):
            self.assertFalse(self.created(policy=parameters(retryable=(status,))))
            self.assertFalse(self.created(policy=parameters(retryable=(14, 2, status))))
        self.assertTrue(self.created(policy=parameters(retryable=tuple(range(1, 17)))))
        self.assertFalse(self.created(policy=parameters(retryable=[14] * 15 + [17])))

    def test_a_create_that_fails_keeps_the_client(self):
        setup = [create(), add_backend(3), start_call(500), complete(0, 14, 22), advance(10)]
        checks = [next_timer(), call_info(0), attempt_info(0), client_status(), totals(), budget(), run(14, 14),
                  call_info(0), set_weight(0, 5)]
        wrong = [create(seed=2147483648), create(balancer=4), create(max_attempts=0), create(refund=1001),
                 create_with(0, 0, []), create(retryable=(0,))]
        plain = ask(*setup, *checks)
        with_wrong = ask(*setup, *wrong, *checks)
        self.assertEqual(with_wrong[len(setup):len(setup) + len(wrong)], [OUTSIDE] * len(wrong))
        self.assertEqual(with_wrong[len(setup) + len(wrong):], plain[len(setup):])

    def test_a_create_that_succeeds_replaces_the_client(self):
        told = ask(
            create(seed=5, max_attempts=1), add_backend(3), add_backend(4), start_call(500), advance(100),
            create(seed=1), run(), next_timer(), set_weight(0, 1), call_info(0), attempt_info(0),
            add_backend(9), start_call(500), set_weight(0, 9), complete(0, 14), call_info(0),
        )
        self.assertEqual(told[5:], [
            [0], [0, 0], [-33], MISSING, MISSING, MISSING,
            [0], [0, 0], [9], [0], [0, 500, 1, 1, 0, 76, 0, 0],
        ])


if __name__ == "__main__":
    unittest.main()
