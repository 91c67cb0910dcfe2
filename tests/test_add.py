"""Promise 2: add keeps one table more and answers its number, or refuses and changes nothing."""

import unittest

from lines import AGREE, LEAST, MOST, add, run, share, size, zeros

WRONG = [
    add(0, []), add(0, [1]), add(0, [1, 2]), add(32, [1]), add(32, [1, 2]), add(-1, [1] * 32), add(MOST, [1] * 32),
    add(1, []), add(1, [1]), add(1, [1, 2, 3]), add(1, [1] * 32), add(31, [1] * 16), add(3, [1, 2, 1001, 4]),
]


class Taken(unittest.TestCase):
    def test_tables_are_numbered_from_0_on(self):
        self.assertEqual(run(add(1, [1, 2]), add(2, [3, 4]), add(1, [1, 2]), zeros(31)), [0, 1, 2, 3])

    def test_the_least_and_the_greatest_mask(self):
        self.assertEqual(run(add(1, [5, 6]), add(31, list(range(32)))), [0, 1])

    def test_every_mask_with_as_many_weights_as_it_has_places(self):
        for mask in range(1, 32):
            with self.subTest(mask=mask):
                self.assertEqual(run(add(mask, [1] * size(mask))), [0])

    def test_a_weight_of_1000_or_0_at_any_place(self):
        for place in range(4):
            with self.subTest(place=place):
                weights = [0] * 4
                weights[place] = 1000
                self.assertEqual(run(add(20, weights), share(0, 0, 0)), [0, 1000])

    def test_nothing_but_1000(self):
        self.assertEqual(run(add(31, [1000] * 32), share(0, 0, 0)), [0, 32000])

    def test_each_table_has_its_own_questions_and_weights(self):
        told = run(
            add(1, [1, 2]), add(16, [3, 4]),
            share(0, 1, 0), share(0, 1, 1), share(1, 16, 0), share(1, 16, 16), share(0, 16, 0), share(1, 1, 0),
        )
        self.assertEqual(told, [0, 1, 1, 2, 3, 4, -1, -1])


class Refused(unittest.TestCase):
    def test_masks_outside_1_to_31_with_any_number_of_weights(self):
        for mask in (0, 32, 33, 63, 64, 1024, MOST - 1, MOST, -1, -2, -31, -32, -33, LEAST, LEAST + 1):
            for n in range(33):
                with self.subTest(mask=mask, n=n):
                    self.assertEqual(run(add(mask, [1] * n)), [-1])

    def test_any_other_number_of_weights_than_the_mask_has_places(self):
        for mask in range(1, 32):
            for n in range(33):
                if n != size(mask):
                    with self.subTest(mask=mask, n=n):
                        self.assertEqual(run(add(mask, [1] * n)), [-1])

    def test_a_weight_above_1000_at_any_place(self):
        for weight in (1001, 1002, 32768, 65535):
            for place in range(8):
                with self.subTest(weight=weight, place=place):
                    weights = [1000] * 8
                    weights[place] = weight
                    self.assertEqual(run(add(25, weights)), [-1])

    def test_the_ninth_table(self):
        self.assertEqual(run(*[zeros(3)] * 8, zeros(3), zeros(31)), list(range(8)) + [-2, -2])

    def test_a_wrong_ninth_table_is_refused_as_wrong(self):
        for wrong in WRONG:
            with self.subTest(wrong=wrong):
                self.assertEqual(run(*[zeros(3)] * 8, wrong, zeros(3)), list(range(8)) + [-1, -2])

    def test_a_refusal_takes_no_number(self):
        for wrong in WRONG:
            with self.subTest(wrong=wrong):
                self.assertEqual(run(wrong, add(1, [2, 3]), wrong, add(2, [4, 5])), [-1, 0, -1, 1])

    def test_the_tables_are_as_they_were_behind_a_wrong_one(self):
        look = [share(0, 1, 0), share(0, 1, 1), share(1, 0, 0), AGREE]
        for wrong in WRONG:
            with self.subTest(wrong=wrong):
                told = run(add(1, [2, 3]), *look, wrong, *look, add(4, [5, 0]), *look)
                self.assertEqual(told, [0, 2, 3, -1, 1, -1, 2, 3, -1, 1, 1, 2, 3, 5, 1])

    def test_the_tables_are_as_they_were_behind_a_ninth_one(self):
        eight = [add(1, [i, 9 - i]) for i in range(8)]
        look = [share(i, 1, told) for i in range(9) for told in (0, 1)] + [AGREE]
        seen = [number for i in range(8) for number in (i, 9 - i)] + [-1, -1, 0]
        told = run(*eight, *look, add(1, [50, 60]), *look)
        self.assertEqual(told, list(range(8)) + seen + [-2] + seen)

    def test_a_ninth_one_that_would_not_agree_is_not_kept(self):
        self.assertEqual(run(*[add(1, [2, 3])] * 8, add(1, [3, 2]), AGREE)[-2:], [-2, 1])


if __name__ == "__main__":
    unittest.main()
