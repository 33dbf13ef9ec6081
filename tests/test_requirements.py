"""The document's requirements 1 to 7, in chosen cases and along many random walks with written seeds."""

import random
import unittest

from helper import (
    add_backend, advance, ask, attempt_info, backends_of, call_info, cancel, complete, create, hash_of,
    remove_backend, run, set_weight, start_call,
)

AT_ONCE = 2
RUNNING, FINISHED, CANCELLED = range(3)


class Once(unittest.TestCase):
    """Requirement 1."""

    def test_only_refused_attempts_are_followed_by_another(self):
        for status in (*range(17), 100):
            told = ask(create(max_attempts=5, hedge_delay=10, retryable=range(1, 17)), add_backend(), add_backend(),
                       start_call(1000, 0), advance(100), complete(0, status, AT_ONCE), advance(100), attempt_info(1))
            self.assertEqual(told[-1] != [-2], status == 100)

    def test_many_refusals_and_one_failure(self):
        told = ask(create(max_attempts=5, retryable=range(1, 17)), add_backend(), start_call(1000, 0),
                   complete(0, 100), complete(1, 100, AT_ONCE), advance(0), complete(2, 100, AT_ONCE), advance(0),
                   complete(3, 14, AT_ONCE), advance(999), attempt_info(4), call_info(0))
        self.assertEqual(told[-4:], [[15], [0, 999], [-2], [15, 1000, 3, 2, 1, 0, 0, 0]])


class Deadline(unittest.TestCase):
    """Requirement 2."""

    def test_nothing_starts_at_the_deadline(self):
        for delay in (48, 49, 50, 51):
            told = ask(create(hedge_delay=delay), add_backend(), start_call(50), start_call(50, 0),
                       complete(1, 14, delay + 2), advance(200), attempt_info(2), call_info(0), call_info(1))
            self.assertEqual(told[-3] != [-2], delay < 50)
            self.assertEqual(told[-2][0], 5)

    def test_no_call_is_open_at_its_deadline(self):
        setup = [create(hedge_delay=7), add_backend(), *[start_call(timeout) for timeout in (1, 9, 10, 11)]]
        told = ask(*setup, advance(10), *[call_info(number) for number in range(4)])
        self.assertEqual([answer[0] for answer in told[-4:]], [5, 5, 5, 0])
        self.assertEqual([answer[7] for answer in told[-4:]], [1, 9, 10, 0])


class NumberOfAttempts(unittest.TestCase):
    """Requirement 3."""

    def test_retries_hedged_attempts_and_refusals_together(self):
        for most in range(1, 6):
            for refused in (0, 1, 2):
                calls = [create(max_attempts=most, hedge_delay=5, retryable=(14,)), add_backend(), add_backend(),
                         start_call(100000)]
                calls += [complete(attempt, 100, AT_ONCE) for attempt in range(refused)]
                calls += [advance(5), run(14, 14, 14, 14), advance(3000), run(*[14] * 30), advance(3000)]
                told = ask(*calls, call_info(0), attempt_info(most), attempt_info(most + 1))
                self.assertEqual(told[-3][2], most)
                self.assertEqual(told[-2] == [-2], refused == 0)
                self.assertEqual(told[-1], [-2])


class Outstanding(unittest.TestCase):
    """Requirement 4, as far as the balancer of outstanding attempts shows it."""

    def loads(self, *setup):
        """How many attempts run on each of two backends: told by which of them new calls fill up first."""
        calls = [create(balancer=2, hedge_delay=10, max_attempts=3), add_backend(), add_backend(), *setup]
        told = ask(*calls, *[attempt_info(number) for number in range(20)])[len(calls):]
        running = [answer[1] for answer in told if len(answer) > 1 and answer[5] == RUNNING]
        first = sum(len(answer) > 1 for answer in told)
        chosen = backends_of([*calls, *[start_call(9, 0)] * 6], range(first, first + 6))
        loads = [running.count(0), running.count(1)]
        for backend in chosen:
            self.assertEqual(backend, loads.index(min(loads)))
            loads[backend] += 1

    def test_each_way_to_end(self):
        three = [start_call(), start_call(), start_call()]
        self.loads(*three)
        self.loads(*three, complete(0, 0))
        self.loads(*three, complete(0, 14))
        self.loads(*three, complete(0, 5), complete(2, 5))
        self.loads(*three, complete(1, 100))
        self.loads(*three, cancel(1), cancel(2))
        self.loads(*three, advance(10), complete(3, 0))
        self.loads(*three, advance(20), complete(3, 3), cancel(2))
        self.loads(*three, advance(1000))
        self.loads(*three, advance(10), run(14, 0, 100))

    def test_a_removed_backend_leaves_nothing_behind(self):
        told = ask(create(balancer=2, hedge_delay=10, retryable=(2,)), add_backend(), start_call(), advance(20),
                   remove_backend(0), add_backend(), start_call(), start_call(), call_info(0), run())
        self.assertEqual(told[-2:], [[15, 1000, 3, 0, 0, 0, 0, 20], [2, 20]])

    def test_a_call_that_is_not_open_has_no_running_attempts(self):
        for end in (cancel(0), complete(1, 0), complete(1, 7), advance(1000)):
            told = ask(create(hedge_delay=10), add_backend(), start_call(), advance(20), end, run())
            self.assertEqual(told[-1][0], 0)


class StableHashing(unittest.TestCase):
    """Requirement 5."""

    def choices(self, keys, *removed):
        setup = [create(balancer=3), *[add_backend()] * 6, *[remove_backend(number) for number in removed],
                 *[start_call(9, 0, key) for key in keys]]
        return backends_of(setup, range(len(keys)))

    def test_removing_a_backend_changes_only_its_own_keys(self):
        keys = [(number * 2654435761 + 5) % 2 ** 32 for number in range(40)]
        before = self.choices(keys)
        self.assertEqual(before, [max(range(6), key=lambda backend: hash_of(key, backend)) for key in keys])
        for removed in range(6):
            after = self.choices(keys, removed)
            for old, new in zip(before, after):
                if old == removed:
                    self.assertNotEqual(new, removed)
                else:
                    self.assertEqual(new, old)


class Tokens(unittest.TestCase):
    """Requirement 6."""

    def test_refunds_stop_at_the_maximum(self):
        for successes in range(4):
            for refund in (1, 500, 1000):
                calls = [create(max_tokens=2, refund=refund), add_backend()]
                for attempt in range(successes):
                    calls += [start_call(), complete(attempt, 0)]
                # With two tokens at the most, a single failure always leaves too few.
                told = ask(*calls, start_call(), complete(successes, 14))
                self.assertEqual(told[-1], [15])


class EjectedBackends(unittest.TestCase):
    """Requirement 7."""

    def test_none_is_chosen_while_another_is_available(self):
        for balancer in range(4):
            for good in range(3):
                setup = [create(balancer=balancer, threshold=1, max_attempts=5, hedge_delay=1),
                         *[add_backend(number + 1) for number in range(3)]]
                attempts = 0
                for bad in [number for number in range(3) if number != good]:
                    # Calls are started until one of them lands on the backend that is to be ejected.
                    while True:
                        setup.append(start_call(100000, 0, 7 * attempts))
                        attempts += 1
                        if backends_of(setup, [attempts - 1]) == [bad]:
                            break
                    setup.append(complete(attempts - 1, 14))
                setup += [start_call(100, 1, 3), advance(4)]
                self.assertEqual(backends_of(setup, range(attempts, attempts + 5)), [good] * 5)


class Walk:
    """A list of calls that grows at random; what it has led to is asked again behind each step."""

    def __init__(self, seed):
        self.dice = random.Random(seed)
        self.policy = {
            "max_attempts": self.dice.randint(1, 5),
            "initial_backoff": self.dice.choice((0, 5, 50)),
            "max_backoff": self.dice.choice((0, 20, 1000)),
            "multiplier": self.dice.choice((100, 150, 200)),
            "hedge_delay": self.dice.choice((0, 0, 3, 20)),
            "threshold": self.dice.randint(0, 2),
            "ejection_time": self.dice.choice((1, 10, 50)),
            "ejection_percent": self.dice.choice((0, 50, 100)),
            "max_tokens": self.dice.choice((0, 3, 10)),
            "refund": self.dice.choice((0, 100, 1000)),
        }
        retryable = self.dice.choice(((), (14,), (2, 14), range(1, 17)))
        self.calls = [create(self.dice.randint(0, 9), self.dice.randint(0, 3), retryable=retryable, **self.policy)]
        self.idempotent = []

    def step(self):
        dice = self.dice
        kind = dice.choice(("add", "remove", "weight", "start", "start", "start", "complete", "complete", "complete",
                            "complete", "cancel", "advance", "advance", "run"))
        status = dice.choice((0, 2, 5, 14, 14, 100, 100))
        if kind == "start":
            self.idempotent.append(dice.randint(0, 1))
        made = {
            "add": lambda: add_backend(dice.randint(1, 5)),
            "remove": lambda: remove_backend(dice.randint(0, 3)),
            "weight": lambda: set_weight(dice.randint(0, 3), dice.randint(1, 5)),
            "start": lambda: start_call(dice.choice((10, 50, 300)), self.idempotent[-1], dice.randint(0, 99)),
            "complete": lambda: complete(dice.randint(0, 12), status, dice.choice((0, 0, 1, 2, 7, 60))),
            "cancel": lambda: cancel(dice.randint(0, 5)),
            "advance": lambda: advance(dice.choice((0, 1, 3, 10, 40))),
            "run": lambda: run(*[dice.choice((0, 2, 14, 14, 100)) for number in range(dice.randint(0, 4))]),
        }
        self.calls.append(made[kind]())

    def asked(self, question):
        """The answers to a question about number 0, 1 and so on, as long as they exist."""
        told = []
        while True:
            count = 60 - len(self.calls)
            more = ask(*self.calls, *[question(len(told) + number) for number in range(count)])[-count:]
            told += [answer for answer in more if answer != [-2]]
            if more[-1] == [-2]:
                return told


class RandomWalks(unittest.TestCase):
    def test_what_holds_behind_every_step(self):
        seen = {"transparent": 0, "retries": 0, "hedged": 0, "late": 0, "closed": 0}
        for seed in range(120):
            walk = Walk(seed)
            walk.calls += [add_backend(2), add_backend(1)]
            for number in range(35):
                walk.step()
                with self.subTest(seed=seed, step=number):
                    self.check(walk, seen)
        self.assertTrue(all(seen.values()), seen)

    def check(self, walk, seen):
        running_in_all, now = ask(*walk.calls, run())[-1]
        calls = walk.asked(call_info)
        attempts = walk.asked(attempt_info)
        self.assertEqual(len(calls), len(walk.idempotent))
        self.assertEqual(running_in_all, sum(answer[5] == RUNNING for answer in attempts))
        for number, info in enumerate(calls):
            own = [answer for answer in attempts if answer[0] == number]
            self.assertEqual([answer[2] for answer in own], list(range(1, len(own) + 1)))
            self.check_call(info, own, walk, now)
            seen["transparent"] += info[4]
            seen["retries"] += info[3]
            seen["hedged"] += len(own) > 1 + info[3] + info[4]
            seen["late"] += info[0] == 5
            seen["closed"] += info[0] > 0
            if not walk.idempotent[number]:
                self.assertTrue(all(answer[5:] == [FINISHED, 100] for answer in own[:-1]))

    def check_call(self, info, own, walk, now):
        status, deadline, counted, retries, transparent, retry_at, hedge_at, finished_at = info
        self.assertTrue(all(answer[3] < deadline for answer in own))
        self.assertLessEqual(now, deadline if status == 0 else now)
        self.assertLessEqual(finished_at, min(deadline, now))
        self.assertLessEqual(counted, walk.policy["max_attempts"])
        self.assertEqual(len(own), counted + transparent)
        running = sum(answer[5] == RUNNING for answer in own)
        if status > 0:
            self.assertEqual([running, retry_at, hedge_at], [0, 0, 0])
        else:
            self.assertEqual(running > 0, retry_at == 0)
            self.assertEqual(finished_at, 0)


if __name__ == "__main__":
    unittest.main()
