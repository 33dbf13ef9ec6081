"""hash and ranking, against FNV-1a over bytes and in written numbers."""

import unittest

from helper import (
    KEYS, MOST, OUTSIDE, add_backend, ask, available_backends, complete, create, fnv_1a, hash_call, hash_of, last,
    ranked, ranking, remove_backend, set_weight, start_call,
)


class Hash(unittest.TestCase):
    def test_in_written_numbers(self):
        # The five bytes of "fooba" and of "hello" have well-known hashes.
        told = ask(create(), hash_call(0x626F6F66, ord("a")), hash_call(0x6C6C6568, ord("o")))
        self.assertEqual(told[1:], [[0x39AAA18A], [0x4F9F2CAB]])

    def test_the_bytes_of_the_key_from_the_least_one(self):
        self.assertEqual(last(create(), hash_call(0x04030201, 5)), [fnv_1a([1, 2, 3, 4, 5])])

    def test_every_byte_matters(self):
        told = ask(create(), *[hash_call(256 ** place, 0) for place in range(4)], hash_call(0, 1), hash_call(0, 0))
        self.assertEqual(told[1:], [[hash_of(256 ** place, 0)] for place in range(4)] + [[hash_of(0, 1)],
                                                                                         [hash_of(0, 0)]])
        self.assertEqual(len({answer[0] for answer in told[1:]}), 6)

    def test_many_keys_and_backends(self):
        for backend in (0, 1, 7, 8, 100, 254, 255):
            told = ask(create(), *[hash_call(key, backend) for key in KEYS])
            self.assertEqual(told[1:], [[hash_of(key, backend)] for key in KEYS])

    def test_backend_at_its_edges(self):
        told = ask(create(), hash_call(9, 0), hash_call(9, 255), hash_call(9, 256), hash_call(9, MOST),
                   hash_call(MOST, 255), hash_call(MOST, 256))
        self.assertEqual(told[1:], [[hash_of(9, 0)], [hash_of(9, 255)], OUTSIDE, OUTSIDE, [hash_of(MOST, 255)],
                                    OUTSIDE])

    def test_the_backend_need_not_exist(self):
        told = ask(create(balancer=3, seed=9), hash_call(5, 0), add_backend(), hash_call(5, 0), remove_backend(0),
                   hash_call(5, 0))
        self.assertEqual([told[1], told[3], told[5]], [[hash_of(5, 0)]] * 3)


class Ranking(unittest.TestCase):
    def test_all_active_backends_by_decreasing_hash(self):
        told = ask(create(), *[add_backend()] * 8, *[ranking(key) for key in KEYS])
        self.assertEqual(told[9:], [[8, *ranked(key, range(8))] for key in KEYS])
        self.assertGreater(len({answer[1] for answer in told[9:]}), 3)

    def test_in_written_numbers(self):
        told = ask(create(), *[add_backend()] * 4, ranking(7), *[hash_call(7, backend) for backend in range(4)])
        self.assertEqual([answer[0] for answer in told[6:]], [1041955014, 1058732633, 1008399776, 1025177395])
        self.assertEqual(told[5], [4, 1, 0, 3, 2])

    def test_few_backends(self):
        told = ask(create(), ranking(1), add_backend(), ranking(1), ranking(MOST), remove_backend(0), ranking(1))
        self.assertEqual([told[1], told[3], told[4], told[6]], [[0], [1, 0], [1, 0], [0]])

    def test_removed_backends_are_left_out(self):
        for key in KEYS:
            told = ask(create(), *[add_backend()] * 5, remove_backend(1), remove_backend(4), ranking(key))
            self.assertEqual(told[-1], [3, *ranked(key, (0, 2, 3))])

    def test_ejected_backends_are_kept(self):
        for key in KEYS:
            told = ask(create(threshold=1), *[add_backend()] * 4, start_call(9, 0), start_call(9, 0),
                       complete(1, 14), available_backends(), ranking(key))
            self.assertEqual(told[-2:], [[3, 0, 2, 3], [4, *ranked(key, range(4))]])

    def test_balancer_weights_and_attempts_do_not_matter(self):
        for balancer in range(4):
            told = ask(create(balancer=balancer), add_backend(1), add_backend(100), add_backend(7), set_weight(2, 3),
                       *[start_call(9, 0, 77)] * 4, ranking(77))
            self.assertEqual(told[-1], [3, *ranked(77, range(3))])


if __name__ == "__main__":
    unittest.main()
