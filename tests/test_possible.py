"""Promise 6: possible answers how many answers to all have no weight of 0 in any table."""

import random
import unittest

from lines import BEGIN, POSSIBLE, add, ask, expected_possible, run, share, size


def possible(*tables):
    return ask(POSSIBLE, tables)


class Possible(unittest.TestCase):
    def test_no_table(self):
        self.assertEqual(possible(), 32)
        self.assertEqual(run(add(1, [0, 0]), POSSIBLE, BEGIN, POSSIBLE), [0, 0, 0, 32])

    def test_all_weights_other_than_0(self):
        for mask in range(1, 32):
            with self.subTest(mask=mask):
                self.assertEqual(possible((mask, [1] * size(mask))), 32)
        self.assertEqual(possible(*[(mask, [1000] * size(mask)) for mask in (1, 2, 3, 7, 15, 31, 24, 10)]), 32)

    def test_a_table_of_zeros(self):
        for mask in range(1, 32):
            with self.subTest(mask=mask):
                self.assertEqual(possible((mask, [0] * size(mask))), 0)
                self.assertEqual(possible((31, [1] * 32), (mask, [0] * size(mask)), (1, [1, 1])), 0)

    def test_one_weight_of_a_table(self):
        for mask in range(1, 32):
            for place in range(size(mask)):
                weights = [0] * size(mask)
                weights[place] = 1
                with self.subTest(mask=mask, place=place):
                    self.assertEqual(possible((mask, weights)), 32 // size(mask))
                    self.assertEqual(possible((mask, [1 - weight for weight in weights])), 32 - 32 // size(mask))

    def test_some_zeros_in_several_tables(self):
        self.assertEqual(possible((1, [0, 5]), (2, [5, 0])), 8)
        self.assertEqual(possible((1, [0, 5]), (1, [5, 0])), 0)
        self.assertEqual(possible((3, [1, 0, 0, 1]), (6, [1, 0, 0, 1])), 8)
        self.assertEqual(possible((3, [1, 0, 0, 1]), (6, [1, 0, 0, 1]), (5, [0, 1, 1, 0])), 0)
        self.assertEqual(possible((3, [1, 0, 0, 1]), (6, [1, 0, 0, 1]), (5, [0, 1, 1, 1])), 4)
        self.assertEqual(possible(*[(1 << question, [0, 9]) for question in range(5)]), 1)

    def test_a_table_about_all_five(self):
        weights = [told % 3 for told in range(32)]
        self.assertEqual(possible((31, weights)), 21)
        self.assertEqual(possible((31, weights), (1, [1, 0])), 10)

    def test_the_first_question_is_bit_0_of_the_place(self):
        self.assertEqual(possible((20, [0, 1, 0, 0]), (4, [0, 1])), 8)
        self.assertEqual(possible((20, [0, 1, 0, 0]), (4, [1, 0])), 0)
        self.assertEqual(possible((20, [0, 1, 0, 0]), (16, [1, 0])), 8)
        self.assertEqual(possible((20, [0, 1, 0, 0]), (16, [0, 1])), 0)

    def test_tables_that_do_not_agree(self):
        self.assertEqual(possible((1, [1, 2]), (1, [700, 0]), (2, [0, 4])), 8)

    def test_by_the_definition(self):
        chance = random.Random(6)
        for turn in range(300):
            masks = [chance.randrange(1, 32) for i in range(chance.randrange(9))]
            kinds = chance.choice([2, 4, 8, 16])
            tables = [(mask, [chance.randrange(kinds) for place in range(size(mask))]) for mask in masks]
            with self.subTest(tables=tables):
                self.assertEqual(possible(*tables), expected_possible(tables))

    def test_a_table_more_and_asking_twice(self):
        told = run(add(1, [0, 1]), POSSIBLE, POSSIBLE, add(24, [1, 1, 0, 1]), POSSIBLE, POSSIBLE, share(1, 24, 24))
        self.assertEqual(told, [0, 16, 16, 1, 12, 12, 1])


if __name__ == "__main__":
    unittest.main()
