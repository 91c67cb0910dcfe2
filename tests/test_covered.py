"""Promise 7: covered answers whether each weight that isn't 0 has possible answers to all that answer so."""

import random
import unittest

from lines import (
    AGREE, BEGIN, COVERED, JOINT, add, agreeing_tables, ask, expected_covered, expected_joint, run, share, size,
    tables_from)

ALIKE = [1, 0, 0, 1]
UNLIKE = [0, 1, 1, 0]


def covered(*tables):
    return ask(COVERED, tables)


class Covered(unittest.TestCase):
    def test_no_table(self):
        self.assertEqual(covered(), 1)
        self.assertEqual(run(add(1, [1, 0]), add(1, [0, 1]), COVERED, BEGIN, COVERED), [0, 1, 0, 0, 1])

    def test_one_table(self):
        for mask in range(1, 32):
            with self.subTest(mask=mask):
                self.assertEqual(covered((mask, [place % 3 for place in range(size(mask))])), 1)

    def test_no_weight_other_than_0_anywhere(self):
        self.assertEqual(covered((31, [0] * 32)), 1)
        self.assertEqual(covered(*[(mask, [0] * size(mask)) for mask in (1, 3, 12, 31, 3, 30)]), 1)

    def test_a_table_of_zeros_beside_a_weight(self):
        self.assertEqual(covered((1, [0, 0]), (30, [0] * 15 + [1])), 0)
        self.assertEqual(covered((30, [1] + [0] * 15), (1, [0, 0])), 0)

    def test_no_weight_of_0_anywhere(self):
        self.assertEqual(covered(*[(mask, [1] * size(mask)) for mask in (3, 6, 5, 31, 16, 28)]), 1)

    def test_a_weight_whose_answers_no_possible_answers_give(self):
        self.assertEqual(covered((1, [1, 0]), (3, [1, 1, 1, 0])), 0)
        self.assertEqual(covered((3, [1, 1, 1, 0]), (1, [1, 0])), 0)
        self.assertEqual(covered((3, [1, 0, 1, 0]), (1, [1, 0])), 1)
        self.assertEqual(covered((3, ALIKE), (6, ALIKE), (5, [1, 1, 0, 1])), 0)
        self.assertEqual(covered((3, ALIKE), (6, ALIKE), (5, [1, 0, 0, 0])), 0)
        self.assertEqual(covered((3, ALIKE), (6, ALIKE), (5, ALIKE)), 1)

    def test_just_one_weight_of_one_table(self):
        whole = [int(told not in (5, 9, 18, 30)) for told in range(32)]
        for i in range(8):
            tables = tables_from(whole, [31, 31, 31, 15, 7, 30, 3, 16])
            self.assertEqual(covered(*tables), 1)
            if i < 3:
                tables[i][1][18] = 1
            else:
                tables[i] = (31, list(whole))
                tables[i][1][30] = 1000
            with self.subTest(i=i):
                self.assertEqual(covered(*tables), 0)

    def test_agreeing_and_not_covered(self):
        tables = [(3, ALIKE), (6, ALIKE), (5, UNLIKE)]
        self.assertEqual([ask(call, tables) for call in (AGREE, JOINT, COVERED)], [1, 0, 0])

    def test_agreeing_and_covered_and_still_not_from_one(self):
        tables = [(mask, [1, 4, 4, 1]) for mask in (3, 6, 5)]
        self.assertEqual([ask(call, tables) for call in (AGREE, JOINT, COVERED)], [1, 0, 1])

    def test_not_agreeing_and_covered(self):
        tables = [(3, [1, 2, 3, 4]), (3, [4, 3, 2, 1]), (4, [1, 1])]
        self.assertEqual([ask(call, tables) for call in (AGREE, JOINT, COVERED)], [0, 0, 1])
        self.assertEqual(covered((3, [1, 0, 0, 2]), (6, [5, 0, 0, 6])), 1)

    def test_not_agreeing_and_not_covered(self):
        tables = [(3, [1, 2, 3, 4]), (3, [4, 3, 2, 0])]
        self.assertEqual([ask(call, tables) for call in (AGREE, JOINT, COVERED)], [0, 0, 0])

    def test_by_the_definition(self):
        chance = random.Random(7)
        seen = {0: 0, 1: 0}
        for turn in range(400):
            masks = [chance.randrange(1, 32) for i in range(chance.randrange(1, 5))]
            most = chance.choice([2, 6, 12])
            whole = [int(chance.randrange(12) < most) for told in range(32)]
            tables = tables_from(whole, masks)
            if turn % 3:
                mask, weights = chance.choice(tables)
                weights[chance.randrange(len(weights))] = chance.randrange(2)
            expected = expected_covered(tables)
            seen[expected] += 1
            with self.subTest(tables=tables):
                self.assertEqual(covered(*tables), expected)
        self.assertGreater(min(seen.values()), 20)

    def test_tables_from_one_are_covered(self):
        chance = random.Random(9)
        for turn in range(60):
            tables = agreeing_tables(chance, [chance.choice([3, 5, 6, 12, 10, 17, 24]) for i in range(5)])
            with self.subTest(tables=tables):
                self.assertGreaterEqual(covered(*tables), expected_joint(tables))
                self.assertEqual(covered(*tables), expected_covered(tables))

    def test_a_table_more_and_asking_twice(self):
        told = run(add(1, [0, 1]), COVERED, COVERED, add(3, [0, 1, 1, 1]), COVERED, COVERED, share(1, 3, 2))
        self.assertEqual(told, [0, 1, 1, 1, 0, 0, 1])


if __name__ == "__main__":
    unittest.main()
