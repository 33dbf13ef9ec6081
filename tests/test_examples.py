"""The document's examples."""

import unittest

from helper import (
    add_backend, advance, ask, attempt_info, available_backends, backend_info, budget, call_info, client_status,
    complete, create_with, next_timer, preview_choice, run, start_call, totals,
)

POLICY = [3, 100, 1000, 200, 0, 2, 1000, 50, 10, 100, 14]


class Examples(unittest.TestCase):
    def test_the_request_of_the_document(self):
        lines = [
            (create_with(1, 0, POLICY), [0]),
            (add_backend(1), [0]),
            (add_backend(1), [1]),
            (start_call(1000, 1, 7), [0, 0]),
            (complete(0, 14, 0), [0]),
            (next_timer(), [75, 1, 0]),
            (advance(100), [1, 100]),
            (attempt_info(1), [0, 1, 2, 75, 925, 0, 0]),
            (complete(1, 100, 0), [0]),
            (call_info(0), [0, 1000, 2, 1, 1, 0, 0, 0]),
            (complete(2, 14, 52), [0]),
            (backend_info(0), [1, 1, 0, 0, 1, 1101, 1, 0]),
            (available_backends(), [1, 1]),
            (run(0), [1, 150]),
            (run(0), [0, 150]),
            (totals(), [1, 1, 0, 4, 2, 0, 1]),
            (budget(), [8100, 1]),
            (start_call(100, 0, 5), [1, 0]),
            (complete(4, 2, 0), [3]),
            (complete(4, 0, 0), [-16]),
            (preview_choice(5), [1]),
            (client_status(), [150, 1103527590, 2, 2, 2, 0]),
        ]
        self.assertEqual(ask(*[line[0] for line in lines]), [line[1] for line in lines])


if __name__ == "__main__":
    unittest.main()
