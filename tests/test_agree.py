"""Promise 4: agree answers whether every two tables have the same shares of what both are about."""

import itertools
import unittest

from lines import AGREE, add, expected_agree, run, table_from

WHOLE = [(told * told * 7 + 5 * told + 3) % 23 for told in range(32)]


def agree(*tables):
    return run(*[add(mask, weights) for mask, weights in tables], AGREE)[-1]


class FewTables(unittest.TestCase):
    def test_no_table(self):
        self.assertEqual(agree(), 1)

    def test_one_table(self):
        self.assertEqual(agree((1, [3, 4])), 1)
        self.assertEqual(agree((31, list(range(32)))), 1)

    def test_one_table_of_zeros(self):
        self.assertEqual(agree((5, [0] * 4)), 1)


class TwoTables(unittest.TestCase):
    def test_with_a_question_in_common(self):
        self.assertEqual(agree((3, [1, 2, 3, 4]), (6, [1, 5, 2, 2])), 1)
        self.assertEqual(agree((3, [1, 2, 3, 4]), (6, [0, 7, 3, 0])), 1)
        self.assertEqual(agree((3, [1, 2, 3, 4]), (6, [5, 1, 2, 2])), 0)
        self.assertEqual(agree((3, [1, 2, 3, 4]), (6, [1, 2, 3, 4])), 0)

    def test_without_questions_in_common(self):
        self.assertEqual(agree((3, [1, 2, 3, 4]), (4, [0, 10])), 1)
        self.assertEqual(agree((3, [1, 2, 3, 4]), (4, [0, 9])), 0)
        self.assertEqual(agree((3, [1, 2, 3, 4]), (28, [0, 0, 0, 9, 0, 2, 0, 0])), 0)

    def test_that_differ_only_in_their_sums(self):
        self.assertEqual(agree((1, [1, 1]), (2, [2, 2])), 0)
        self.assertEqual(agree((3, [1, 2, 3, 4]), (3, [2, 4, 6, 8])), 0)
        self.assertEqual(agree((3, [1, 1, 1, 1]), (6, [3, 3, 3, 3])), 0)
        self.assertEqual(agree((3, [0, 0, 0, 0]), (24, [0, 0, 0, 1])), 0)

    def test_of_the_same_mask(self):
        self.assertEqual(agree((9, [1, 2, 3, 4]), (9, [1, 2, 3, 4])), 1)
        self.assertEqual(agree((9, [1, 2, 3, 4]), (9, [1, 3, 2, 4])), 0)

    def test_with_the_same_share_of_each_question_but_not_of_both(self):
        self.assertEqual(agree((3, [1, 0, 0, 1]), (3, [0, 1, 1, 0])), 0)
        self.assertEqual(agree((7, [1, 0, 0, 1, 0, 0, 0, 0]), (11, [0, 1, 1, 0, 0, 0, 0, 0])), 0)

    def test_one_within_the_other(self):
        self.assertEqual(agree((31, list(range(32))), (16, [120, 376])), 1)
        self.assertEqual(agree((31, list(range(32))), (16, [376, 120])), 0)
        self.assertEqual(agree((31, list(range(32))), (1, [240, 256])), 1)

    def test_of_zeros(self):
        self.assertEqual(agree((3, [0] * 4), (6, [0] * 4)), 1)
        self.assertEqual(agree((3, [0] * 4), (4, [0] * 2)), 1)

    def test_of_all_masks(self):
        for first, second in itertools.product(range(1, 32), repeat=2):
            with self.subTest(first=first, second=second):
                weights = table_from(WHOLE, second)
                self.assertEqual(agree((first, table_from(WHOLE, first)), (second, weights)), 1)
                weights[-1] += 1
                self.assertEqual(agree((first, table_from(WHOLE, first)), (second, weights)), 0)

    def test_of_all_masks_where_one_answer_goes_elsewhere(self):
        for first, second in itertools.product(range(1, 32), repeat=2):
            weights = table_from(WHOLE, second)
            for place in range(1, len(weights), 3):
                moved = list(weights)
                moved[0] += 1
                moved[place] = max(moved[place] - 1, 0)
                tables = [(first, table_from(WHOLE, first)), (second, moved)]
                with self.subTest(first=first, second=second, place=place):
                    self.assertEqual(agree(*tables), expected_agree(tables))


class SeveralTables(unittest.TestCase):
    def pair_apart(self, first, second, yes):
        """Four tables of the sum 4; question 4 is in two of them alone, yes of 4 times answered by 1 in the second."""
        tables = [(1 << question, [1, 3]) for question in range(4)]
        tables[first] = ((1 << first) + 16, [1, 1, 0, 2])
        tables[second] = ((1 << second) + 16, [4 - yes, 0, 0, yes])
        return tables

    def test_just_one_pair_that_does_not_agree(self):
        for first, second in itertools.permutations(range(4), 2):
            with self.subTest(first=first, second=second):
                self.assertEqual(agree(*self.pair_apart(first, second, 2)), 1)
                self.assertEqual(agree(*self.pair_apart(first, second, 1)), 0)
                self.assertEqual(agree(*self.pair_apart(first, second, 3)), 0)

    def test_just_one_pair_of_eight(self):
        for first, second in itertools.combinations(range(8), 2):
            tables = [(2, [5, 5])] * 8
            tables[first] = (3, [1, 4, 5, 0])
            tables[second] = (3, [1, 5, 4, 0])
            with self.subTest(first=first, second=second):
                self.assertEqual(agree(*tables), 0)
                tables[first] = (1, [5, 5])
                tables[second] = (3, [1, 4, 4, 1])
                self.assertEqual(agree(*tables), 1)

    def test_all_from_one(self):
        masks = [3, 6, 12, 24, 17, 7, 21, 31]
        self.assertEqual(agree(*[(mask, table_from(WHOLE, mask)) for mask in masks]), 1)

    def test_that_agree_but_do_not_come_from_one(self):
        self.assertEqual(agree((3, [1, 0, 0, 1]), (6, [1, 0, 0, 1]), (5, [0, 1, 1, 0])), 1)

    def test_a_table_more_may_end_it(self):
        told = run(add(1, [2, 3]), AGREE, add(2, [1, 4]), AGREE, add(3, [0, 1, 3, 1]), AGREE, add(4, [5, 0]), AGREE)
        self.assertEqual(told, [0, 1, 1, 1, 2, 0, 3, 0])

    def test_asking_changes_nothing(self):
        told = run(add(1, [2, 3]), AGREE, AGREE, [2, 0, 1, 1], add(1, [3, 2]), AGREE, AGREE, [2, 1, 1, 1])
        self.assertEqual(told, [0, 1, 1, 3, 1, 0, 0, 2])


if __name__ == "__main__":
    unittest.main()
