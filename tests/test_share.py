"""Promise 3: share answers the sum of a table's weights at the places that answer the questions so."""

import unittest

from lines import LEAST, MOST, add, expected_share, run, share, size

# About the questions 1, 3 and 4; no two sets of these weights have the same sum.
TABLE = add(26, [1, 2, 4, 8, 16, 32, 64, 128])


class Shares(unittest.TestCase):
    def ask(self, *calls):
        return run(TABLE, *calls)[1:]

    def test_of_a_table_about_one_question(self):
        told = run(add(4, [7, 9]), share(0, 4, 0), share(0, 4, 4), share(0, 0, 0))
        self.assertEqual(told, [0, 7, 9, 16])

    def test_of_all_questions_of_a_table_about_some(self):
        told = self.ask(*[share(0, 26, answers) for answers in (0, 2, 8, 10, 16, 18, 24, 26)])
        self.assertEqual(told, [1, 2, 4, 8, 16, 32, 64, 128])

    def test_of_one_question_of_a_table_about_some(self):
        told = self.ask(
            share(0, 2, 0), share(0, 2, 2), share(0, 8, 0), share(0, 8, 8), share(0, 16, 0), share(0, 16, 16))
        self.assertEqual(told, [85, 170, 51, 204, 15, 240])

    def test_of_two_questions_of_a_table_about_some(self):
        told = self.ask(share(0, 18, 0), share(0, 18, 2), share(0, 18, 16), share(0, 18, 18), share(0, 10, 8))
        self.assertEqual(told, [1 + 4, 2 + 8, 16 + 64, 32 + 128, 4 + 64])

    def test_of_a_table_about_all_five(self):
        table = add(31, list(range(100, 132)))
        told = run(table, *[share(0, 31, answers) for answers in range(32)])
        self.assertEqual(told, [0] + list(range(100, 132)))
        self.assertEqual(run(table, share(0, 1, 1), share(0, 15, 9)), [0, sum(range(101, 132, 2)), 109 + 125])

    def test_of_no_questions(self):
        self.assertEqual(self.ask(*[share(0, 0, answers) for answers in range(32)]), [255] * 32)

    def test_of_a_table_of_zeros(self):
        self.assertEqual(run(add(3, [0] * 4), share(0, 0, 0), share(0, 3, 3)), [0, 0, 0])

    def test_the_least_and_the_greatest_answers(self):
        self.assertEqual(self.ask(share(0, 26, 0), share(0, 26, 31), share(0, 2, 31)), [1, 128, 170])

    def test_answers_outside_mask_change_nothing(self):
        for mask in (0, 2, 8, 16, 10, 18, 24, 26):
            for answers in range(32):
                with self.subTest(mask=mask, answers=answers):
                    within, other = self.ask(share(0, mask, answers & mask), share(0, mask, answers))
                    self.assertEqual(within, other)

    def test_of_the_table_with_that_number(self):
        tables = [add(1, [10 + i, 20 + i]) for i in range(8)]
        told = run(*tables, *[share(i, 1, 1) for i in range(8)])
        self.assertEqual(told[8:], [20 + i for i in range(8)])

    def test_every_mask_within_every_mask_and_all_answers(self):
        for table_mask in range(1, 32):
            weights = [(place * place * 37 + 11 * place + table_mask) % 1001 for place in range(size(table_mask))]
            for mask in range(32):
                told = run(add(table_mask, weights), *[share(0, mask, answers) for answers in range(32)])[1:]
                if mask & ~table_mask:
                    expected = [-1] * 32
                else:
                    expected = [expected_share(table_mask, weights, mask, answers) for answers in range(32)]
                with self.subTest(table_mask=table_mask, mask=mask):
                    self.assertEqual(told, expected)


class Refused(unittest.TestCase):
    def test_no_table_with_that_number(self):
        for count in range(9):
            for i in (-1, -2, -8, count, count + 1, LEAST, MOST):
                with self.subTest(count=count, i=i):
                    self.assertEqual(run(*[add(1, [1, 2])] * count, share(i, 0, 0))[-1], -1)

    def test_a_mask_outside_0_to_31(self):
        for mask in (-1, -2, -32, 32, 33, 64, LEAST, MOST):
            with self.subTest(mask=mask):
                self.assertEqual(run(add(31, [1] * 32), share(0, mask, 0), share(0, mask, 31)), [0, -1, -1])

    def test_a_question_that_the_table_is_not_about(self):
        self.assertEqual(run(TABLE, *[share(0, mask, 0) for mask in (1, 4, 3, 27, 30, 31)]), [0] + [-1] * 6)

    def test_answers_outside_0_to_31(self):
        for answers in (-1, -2, -32, 32, 33, 64, LEAST, MOST):
            with self.subTest(answers=answers):
                told = run(TABLE, share(0, 26, answers), share(0, 2, answers), share(0, 0, answers))
                self.assertEqual(told, [0, -1, -1, -1])

    def test_nothing_changes(self):
        wrong = [share(1, 0, 0), share(-1, 0, 0), share(0, 32, 0), share(0, 1, 0), share(0, 0, 32)]
        told = run(TABLE, *wrong, share(0, 26, 18), share(0, 0, 0), add(1, [3, 4]), share(1, 1, 0))
        self.assertEqual(told, [0] + [-1] * 5 + [32, 255, 1, 3])


if __name__ == "__main__":
    unittest.main()
