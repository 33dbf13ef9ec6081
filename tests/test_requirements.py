"""The document's requirements 1 to 7, in chosen cases and along many random walks with written seeds."""

import unittest

from helper import (
    NOTHING, Sight, Walk, add_backend, advance, ask, attempt_info, available_backends, backends_of, budget,
    call_attempts, call_info, cancel, complete, create, hash_of, preview_choice, ranked, ranking, remove_backend, run,
    running_attempts, start_call,
)

AT_ONCE = 2
START_CALL = 4
RUNNING, FINISHED, CANCELLED = range(3)


class Once(unittest.TestCase):
    """Requirement 1."""

    def test_only_refused_attempts_are_followed_by_another(self):
        for status in (*range(17), 100):
            told = ask(create(max_attempts=5, hedge_delay=10, retryable=range(1, 17)), add_backend(), add_backend(),
                       start_call(1000, 0), advance(100), complete(0, status, AT_ONCE), advance(100), attempt_info(1))
            self.assertEqual(told[-1] != [-2], status == 100)

    def test_many_refusals_and_one_failure(self):
        told = ask(create(max_attempts=5, retryable=range(1, 17)), add_backend(), start_call(1000, 0),
                   complete(0, 100), complete(1, 100, AT_ONCE), advance(0), complete(2, 100, AT_ONCE), advance(0),
                   complete(3, 14, AT_ONCE), advance(999), attempt_info(4), call_info(0))
        self.assertEqual(told[-4:], [[15], [0, 999], [-2], [15, 1000, 3, 2, 1, 0, 0, 0]])


class Deadline(unittest.TestCase):
    """Requirement 2."""

    def test_nothing_starts_at_the_deadline(self):
        for delay in (48, 49, 50, 51):
            told = ask(create(hedge_delay=delay), add_backend(), start_call(50), start_call(50, 0),
                       complete(1, 14, delay + 2), advance(200), attempt_info(2), call_info(0), call_info(1))
            self.assertEqual(told[-3] != [-2], delay < 50)
            self.assertEqual(told[-2][0], 5)

    def test_no_call_is_open_at_its_deadline(self):
        setup = [create(hedge_delay=7), add_backend(), *[start_call(timeout) for timeout in (1, 9, 10, 11)]]
        told = ask(*setup, advance(10), *[call_info(number) for number in range(4)])
        self.assertEqual([answer[0] for answer in told[-4:]], [5, 5, 5, 0])
        self.assertEqual([answer[7] for answer in told[-4:]], [1, 9, 10, 0])


class NumberOfAttempts(unittest.TestCase):
    """Requirement 3."""

    def test_retries_hedged_attempts_and_refusals_together(self):
        for most in range(1, 6):
            for refused in (0, 1, 2):
                calls = [create(max_attempts=most, hedge_delay=5, retryable=(14,)), add_backend(), add_backend(),
                         start_call(100000)]
                calls += [complete(attempt, 100, AT_ONCE) for attempt in range(refused)]
                calls += [advance(5), run(14, 14, 14, 14), advance(3000), run(*[14] * 30), advance(3000)]
                told = ask(*calls, call_info(0), attempt_info(most), attempt_info(most + 1), call_attempts(0))
                self.assertEqual(told[-4][2], most)
                self.assertEqual(told[-3] == [-2], refused == 0)
                self.assertEqual(told[-2], [-2])
                self.assertEqual(told[-1][0], most + min(refused, 1))


class Outstanding(unittest.TestCase):
    """Requirement 4, as far as the balancer of outstanding attempts shows it."""

    def loads(self, *setup):
        """How many attempts run on each of two backends: told by which of them new calls fill up first."""
        calls = [create(balancer=2, hedge_delay=10, max_attempts=3), add_backend(), add_backend(), *setup]
        told = ask(*calls, *[attempt_info(number) for number in range(20)])[len(calls):]
        running = [answer[1] for answer in told if len(answer) > 1 and answer[5] == RUNNING]
        first = sum(len(answer) > 1 for answer in told)
        chosen = backends_of([*calls, *[start_call(9, 0)] * 6], range(first, first + 6))
        loads = [running.count(0), running.count(1)]
        for backend in chosen:
            self.assertEqual(backend, loads.index(min(loads)))
            loads[backend] += 1

    def test_each_way_to_end(self):
        three = [start_call(), start_call(), start_call()]
        self.loads(*three)
        self.loads(*three, complete(0, 0))
        self.loads(*three, complete(0, 14))
        self.loads(*three, complete(0, 5), complete(2, 5))
        self.loads(*three, complete(1, 100))
        self.loads(*three, cancel(1), cancel(2))
        self.loads(*three, advance(10), complete(3, 0))
        self.loads(*three, advance(20), complete(3, 3), cancel(2))
        self.loads(*three, advance(1000))
        self.loads(*three, advance(10), run(14, 0, 100))

    def test_a_removed_backend_leaves_nothing_behind(self):
        told = ask(create(balancer=2, hedge_delay=10, retryable=(2,)), add_backend(), start_call(), advance(20),
                   remove_backend(0), add_backend(), start_call(), start_call(), call_info(0), run())
        self.assertEqual(told[-2:], [[15, 1000, 3, 0, 0, 0, 0, 20], [2, 20]])

    def test_a_call_that_is_not_open_has_no_running_attempts(self):
        for end in (cancel(0), complete(1, 0), complete(1, 7), advance(1000)):
            told = ask(create(hedge_delay=10), add_backend(), start_call(), advance(20), end, run(),
                       running_attempts())
            self.assertEqual(told[-2][0], 0)
            self.assertEqual(told[-1], [0])


class StableHashing(unittest.TestCase):
    """Requirement 5."""

    def choices(self, keys, *removed):
        setup = [create(balancer=3), *[add_backend()] * 6, *[remove_backend(number) for number in removed],
                 *[start_call(9, 0, key) for key in keys]]
        return backends_of(setup, range(len(keys)))

    def test_removing_a_backend_changes_only_its_own_keys(self):
        keys = [(number * 2654435761 + 5) % 2 ** 32 for number in range(40)]
        before = self.choices(keys)
        self.assertEqual(before, [max(range(6), key=lambda backend: hash_of(key, backend)) for key in keys])
        for removed in range(6):
            after = self.choices(keys, removed)
            for old, new in zip(before, after):
                if old == removed:
                    self.assertNotEqual(new, removed)
                else:
                    self.assertEqual(new, old)

    def told(self, question, removed, keys):
        """The answers to preview_choice or ranking for each key behind the removal of some backends."""
        setup = [create(balancer=3), *[add_backend()] * 6, *[remove_backend(number) for number in removed]]
        return ask(*setup, *[question(key) for key in keys])[len(setup):]

    def test_removing_a_backend_changes_only_its_own_previews(self):
        keys = [number * 2654435761 % 2 ** 32 for number in range(40)]
        before = self.told(preview_choice, [], keys)
        self.assertGreater(len({answer[0] for answer in before}), 3)
        for removed in range(6):
            for old, new in zip(before, self.told(preview_choice, [removed], keys)):
                self.assertEqual(new != old, old == [removed])

    def test_removing_a_backend_only_takes_it_out_of_the_ranking(self):
        keys = [number * 2654435761 % 2 ** 32 for number in range(40)]
        before = self.told(ranking, [], keys)
        for removed in ([0], [5], [2, 3], [5, 0, 1]):
            for old, new in zip(before, self.told(ranking, removed, keys)):
                left = [backend for backend in old[1:] if backend not in removed]
                self.assertEqual(new, [len(left), *left])


class Tokens(unittest.TestCase):
    """Requirement 6."""

    def test_refunds_stop_at_the_maximum(self):
        for successes in range(4):
            for refund in (1, 500, 1000):
                calls = [create(max_tokens=2, refund=refund), add_backend()]
                for attempt in range(successes):
                    calls += [start_call(), complete(attempt, 0)]
                # With two tokens at the most, a single failure always leaves too few.
                told = ask(*calls, budget(), start_call(), complete(successes, 14), budget())
                self.assertEqual(told[-4:], [[2000, 1], [successes, 0], [15], [1000, 0]])

    def test_a_refund_goes_only_up_to_the_maximum(self):
        for refund, tokens in ((999, [2999, 3000]), (1000, [3000, 3000]), (700, [2700, 3000])):
            told = ask(create(max_tokens=3, refund=refund, max_attempts=1), add_backend(), start_call(),
                       complete(0, 14), start_call(), complete(1, 0), budget(), start_call(), complete(2, 0), budget())
            self.assertEqual([told[6][0], told[9][0]], tokens)


class EjectedBackends(unittest.TestCase):
    """Requirement 7."""

    def test_none_is_chosen_while_another_is_available(self):
        for balancer in range(4):
            for good in range(3):
                setup = [create(balancer=balancer, threshold=1, max_attempts=5, hedge_delay=1),
                         *[add_backend(number + 1) for number in range(3)]]
                attempts = 0
                for bad in [number for number in range(3) if number != good]:
                    # Calls are started until one of them lands on the backend that is to be ejected.
                    while True:
                        setup.append(start_call(100000, 0, 7 * attempts))
                        attempts += 1
                        if backends_of(setup, [attempts - 1]) == [bad]:
                            break
                    setup.append(complete(attempts - 1, 14))
                self.assertEqual(ask(*setup, available_backends(), preview_choice(3))[-2:], [[1, good], [good]])
                setup += [start_call(100, 1, 3), advance(4)]
                self.assertEqual(backends_of(setup, range(attempts, attempts + 5)), [good] * 5)


class RandomWalks(unittest.TestCase):
    KEY = 305419896

    def test_what_holds_behind_every_step(self):
        seen = {"transparent": 0, "retries": 0, "hedged": 0, "late": 0, "closed": 0, "ejected": 0, "none": 0}
        for seed in range(120):
            walk = Walk(seed)
            walk.calls += [add_backend(2), add_backend(1)]
            before = Sight(walk, self.KEY)
            for number in range(35):
                walk.step()
                with self.subTest(seed=seed, step=number):
                    sight = Sight(walk, self.KEY)
                    self.check_calls(walk, sight)
                    self.check_attempts(sight)
                    self.check_backends(walk, sight)
                    self.check_start(walk, before, sight)
                    self.note(sight, seen)
                before = sight
        self.assertTrue(all(seen.values()), seen)

    def note(self, sight, seen):
        calls, ok, failed, attempts, retries, hedges, transparent = sight.totals
        seen["transparent"] += transparent
        seen["retries"] += retries
        seen["hedged"] += hedges
        seen["late"] += sum(info[0] == 5 for info in sight.calls)
        seen["closed"] += ok + failed
        seen["ejected"] += sum(info[6] for info in sight.backends)
        seen["none"] += sight.available == [0] and sight.ranking != [0]

    def check_calls(self, walk, sight):
        self.assertEqual(len(sight.calls), len(walk.idempotent))
        for number, info in enumerate(sight.calls):
            own = [sight.attempts[attempt] for attempt in sight.own_attempts[number][1:]]
            self.assertEqual([answer[2] for answer in own], list(range(1, len(own) + 1)))
            self.check_call(info, own, walk, sight.now)
            if not walk.idempotent[number]:
                self.assertTrue(all(answer[5:] == [FINISHED, 100] for answer in own[:-1]))
        ends = [info[0] for info in sight.calls if info[0] > 0]
        calls, ok, failed, attempts, retries, hedges, transparent = sight.totals
        self.assertEqual([calls, ok, ok + failed], [len(sight.calls), ends.count(1), len(ends)])
        self.assertEqual(retries, sum(info[3] for info in sight.calls))
        self.assertEqual(transparent, sum(info[4] for info in sight.calls))
        self.assertEqual(attempts, len(sight.attempts))
        self.assertLessEqual(attempts, calls + retries + hedges + transparent)

    def check_call(self, info, own, walk, now):
        status, deadline, counted, retries, transparent, retry_at, hedge_at, finished_at = info
        self.assertTrue(all(answer[3] < deadline for answer in own))
        self.assertLessEqual(now, deadline if status == 0 else now)
        self.assertLessEqual(finished_at, min(deadline, now))
        self.assertLessEqual(counted, walk.policy["max_attempts"])
        self.assertEqual(len(own), counted + transparent)
        running = sum(answer[5] == RUNNING for answer in own)
        if status > 0:
            self.assertEqual([running, retry_at, hedge_at], [0, 0, 0])
        else:
            self.assertEqual(running > 0, retry_at == 0)
            self.assertEqual(finished_at, 0)

    def check_attempts(self, sight):
        for number, told in enumerate(sight.own_attempts):
            own = [attempt for attempt, info in enumerate(sight.attempts) if info[0] == number]
            self.assertEqual(told, [len(own), *own])
        running = [attempt for attempt, info in enumerate(sight.attempts) if info[5] == RUNNING]
        self.assertEqual(sight.running, [len(running), *running])
        self.assertEqual(sight.status[5], len(running))
        on_each = [sight.attempts[attempt][1] for attempt in running]
        for number, info in enumerate(sight.backends):
            self.assertEqual(info[2], on_each.count(number))

    def check_backends(self, walk, sight):
        active = [number for number, info in enumerate(sight.backends) if info[0]]
        available = [number for number in active if not sight.backends[number][6]]
        self.assertEqual(sight.status[3:5], [len(sight.backends), len(active)])
        self.assertEqual(sight.available, [len(available), *available])
        self.assertEqual(sight.ranking, [len(active), *ranked(self.KEY, active)])
        self.assertEqual(sight.preview == NOTHING, not active)
        if active:
            self.assertIn(sight.preview[0], available or active)
        for active, weight, outstanding, failures, ejections, until, ejected, current in sight.backends:
            self.assertEqual(ejected == 1, sight.now < until - 1)
            self.assertEqual(ejections > 0, until > 0)
        most = walk.policy["max_tokens"] * 1000
        tokens, allowed = sight.budget
        self.assertTrue(0 <= tokens <= most)
        self.assertEqual(allowed == 1, most == 0 or 2 * tokens > most)

    def check_start(self, walk, before, sight):
        """No time passes with start_call, so what was available ahead of it is what it chooses among."""
        started = sight.attempts[len(before.attempts):]
        if walk.calls[-1][0] == START_CALL and before.ranking != [0]:
            self.assertEqual(len(started), 1)
            self.assertIn(started[0][1], before.available[1:] or before.ranking[1:])


if __name__ == "__main__":
    unittest.main()
