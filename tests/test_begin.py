"""Promise 1: begin leaves no tables and answers 0."""

import unittest

from agreeingtables.questions import answers
from lines import AGREE, BEGIN, add, flat, run, share, zeros


class Begin(unittest.TestCase):
    def test_answers_0(self):
        self.assertEqual(answers(BEGIN), [1, 0])

    def test_leaves_no_tables_at_first(self):
        self.assertEqual(run(share(0, 0, 0), AGREE), [-1, 1])

    def test_answers_0_when_it_comes_again(self):
        self.assertEqual(answers(BEGIN * 3), [1, 0, 1, 0, 1, 0])
        self.assertEqual(answers(flat([BEGIN, add(1, [3, 4]), BEGIN])), [1, 0, 1, 0, 1, 0])

    def test_leaves_no_tables_when_it_comes_again(self):
        told = run(add(1, [3, 4]), add(2, [5, 6]), BEGIN, share(0, 0, 0), share(1, 0, 0))
        self.assertEqual(told, [0, 1, 0, -1, -1])

    def test_tables_that_did_not_agree_are_gone(self):
        self.assertEqual(run(add(1, [3, 4]), add(1, [4, 3]), AGREE, BEGIN, AGREE), [0, 1, 0, 0, 1])

    def test_tables_are_numbered_from_0_anew(self):
        told = run(add(1, [3, 4]), add(2, [5, 6]), BEGIN, add(4, [7, 8]), share(0, 4, 4), share(1, 0, 0), add(1, [9, 9]))
        self.assertEqual(told, [0, 1, 0, 0, 8, -1, 1])

    def test_there_is_room_for_eight_again(self):
        eight = [zeros(1)] * 8
        numbers = list(range(8))
        told = run(*eight, zeros(1), BEGIN, *eight, zeros(1))
        self.assertEqual(told, numbers + [-2, 0] + numbers + [-2])


if __name__ == "__main__":
    unittest.main()
