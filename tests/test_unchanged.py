"""What changes nothing, whatever is asked behind it: the calls that only tell, and operations that fail."""

import unittest

from helper import (
    KEYS, MOST, Walk, add_backend, advance, ask, attempt_info, available_backends, backend_info, backoff_bound, budget,
    call_attempts, call_info, cancel, client_status, complete, create, hash_call, next_timer, preview_choice, ranking,
    remove_backend, run, running_attempts, set_weight, start_call, totals,
)

QUESTIONS = {
    "next_timer": [next_timer()],
    "call_info": [call_info(0), call_info(2), call_info(MOST)],
    "attempt_info": [attempt_info(0), attempt_info(3), attempt_info(MOST)],
    "call_attempts": [call_attempts(0), call_attempts(2), call_attempts(MOST)],
    "backend_info": [backend_info(0), backend_info(3), backend_info(MOST)],
    "running_attempts": [running_attempts()],
    "preview_choice": [preview_choice(0), preview_choice(7), preview_choice(MOST)],
    "ranking": [ranking(0), ranking(7), ranking(MOST)],
    "hash": [hash_call(7, 0), hash_call(MOST, 255), hash_call(7, 256)],
    "available_backends": [available_backends()],
    "backoff_bound": [backoff_bound(1), backoff_bound(10), backoff_bound(11)],
    "budget": [budget()],
    "totals": [totals()],
    "status": [client_status()],
}
FAILING = [
    create(balancer=4), create(refund=1001), add_backend(0), remove_backend(MOST), set_weight(MOST, 5),
    set_weight(0, 101), start_call(0), start_call(50, 2), complete(MOST, 0), complete(0, 17), complete(0, 0, 100003),
    cancel(MOST), advance(1000001), run(0, 14, 17), run(*[14] * 39, 99),
]
ALL_BEHIND = [
    client_status(), totals(), budget(), running_attempts(), available_backends(), next_timer(),
    *[backend_info(number) for number in range(3)], *[call_info(number) for number in range(3)],
    preview_choice(5), start_call(50, 1, 5),
]


def walks():
    for seed in range(60):
        walk = Walk(seed)
        walk.calls += [add_backend(2), add_backend(1), start_call(300, 1, 4)]
        walk.idempotent.append(1)
        for number in range(7):
            walk.step()
        yield walk


class Unchanged(unittest.TestCase):
    def test_each_kind_of_question_behind_every_step(self):
        for walk in walks():
            plain = ask(*walk.calls, *ALL_BEHIND)
            for name, questions in QUESTIONS.items():
                with_questions = [one for call in walk.calls for one in (call, *questions)]
                self.assertLessEqual(len(with_questions) + len(ALL_BEHIND), 60)
                told = ask(*with_questions, *ALL_BEHIND)
                between = told[:len(with_questions):1 + len(questions)]
                self.assertEqual(between + told[len(with_questions):], plain, name)

    def test_asked_twice_they_tell_the_same(self):
        for walk in walks():
            for name, questions in QUESTIONS.items():
                told = walk.asked(*questions, *questions)
                self.assertEqual(told[:len(questions)], told[len(questions):], name)


class Failed(unittest.TestCase):
    def test_operations_that_fail_behind_every_step(self):
        for walk in walks():
            plain = ask(*walk.calls, *ALL_BEHIND)
            for failing in FAILING:
                told = ask(*[one for call in walk.calls for one in (call, failing)], *ALL_BEHIND)
                between = told[1:2 * len(walk.calls):2]
                self.assertTrue(all(len(answer) == 1 and answer[0] < 0 for answer in between), between)
                self.assertEqual(told[:2 * len(walk.calls):2] + told[2 * len(walk.calls):], plain)

    def test_without_the_operations_that_failed_all_others_tell_the_same(self):
        failed = set()
        for walk in walks():
            for number in range(20):
                walk.step()
            told = list(zip(walk.calls, ask(*walk.calls)))
            kept = [(call, answer) for call, answer in told if answer[0] >= 0]
            failed |= {(call[0], answer[0]) for call, answer in told if answer[0] < 0}
            behind = walk.asked(*ALL_BEHIND)
            self.assertEqual(ask(*[call for call, answer in kept], *ALL_BEHIND),
                             [answer for call, answer in kept] + behind)
        self.assertTrue(failed.issuperset({(2, -2), (3, -2), (5, -2), (5, -16), (6, -2), (6, -16)}), failed)


class PreviewsComeTrue(unittest.TestCase):
    def test_a_call_right_behind_it_takes_that_backend(self):
        seen = set()
        for walk in walks():
            balancer = walk.calls[0][3]
            for key in KEYS:
                foretold, counts, started = walk.asked(preview_choice(key), totals(), start_call(1000, 0, key))
                if started[1] > 0:
                    self.assertEqual(foretold, [-33])
                else:
                    told = walk.asked(start_call(1000, 0, key), attempt_info(counts[3]))
                    self.assertEqual([told[1][1]], foretold)
                    seen.add((balancer, foretold[0]))
        self.assertTrue(seen.issuperset((balancer, backend) for balancer in range(4) for backend in range(2)))


if __name__ == "__main__":
    unittest.main()
