"""Promise 8: tree answers whether the masks of all tables hang together like a tree."""

import itertools
import random
import unittest

from lines import BEGIN, TREE, add, expected_tree, run, share, size, zeros


def tree(*masks):
    told = run(*[zeros(mask) for mask in masks], TREE)
    if told[:-1] != list(range(len(masks))):
        raise AssertionError(f"not all tables were taken: {told}")
    return told[-1]


def tree_by_the_words(masks):
    """The document's own steps, with sets of questions."""
    left = [{question for question in range(5) if (mask >> question) & 1} for mask in masks]
    changed = True
    while changed:
        before = [set(mask) for mask in left]
        asked = [question for mask in left for question in mask]
        left = [{question for question in mask if asked.count(question) > 1} for mask in left]
        left = [
            mask for i, mask in enumerate(left)
            if not any(mask < other or (mask == other and j < i) for j, other in enumerate(left))]
        changed = left != before
    return int(len(left) <= 1)


class Tree(unittest.TestCase):
    def each_order(self, expected, *masks):
        for ordered in itertools.permutations(masks):
            with self.subTest(masks=ordered):
                self.assertEqual(tree(*ordered), expected)

    def test_no_mask(self):
        self.assertEqual(tree(), 1)
        self.assertEqual(run(zeros(3), zeros(6), zeros(5), TREE, BEGIN, TREE), [0, 1, 2, 0, 0, 1])

    def test_one_mask(self):
        for mask in range(1, 32):
            with self.subTest(mask=mask):
                self.assertEqual(tree(mask), 1)

    def test_two_masks(self):
        for first, second in itertools.product(range(1, 32), repeat=2):
            with self.subTest(first=first, second=second):
                self.assertEqual(tree(first, second), 1)

    def test_a_chain(self):
        self.each_order(1, 3, 6, 12)
        self.each_order(1, 3, 6, 12, 24)

    def test_a_star(self):
        self.each_order(1, 3, 5, 9, 17)
        self.each_order(1, 7, 25, 1)

    def test_rings(self):
        self.each_order(0, 3, 6, 5)
        self.each_order(0, 5, 9, 6, 10)
        self.each_order(0, 3, 6, 12, 24, 17)

    def test_a_ring_within_another_mask(self):
        self.each_order(1, 3, 6, 5, 7)
        self.each_order(1, 3, 6, 5, 31)
        self.each_order(0, 3, 6, 5, 24)
        self.each_order(0, 3, 6, 5, 8)
        self.each_order(1, 5, 9, 6, 10, 15)

    def test_a_ring_with_chords_and_some_of_it_within_others(self):
        self.each_order(0, 5, 9, 6, 10, 3)
        self.each_order(0, 5, 9, 6, 10, 7)
        self.each_order(1, 5, 9, 6, 10, 7, 11)

    def test_a_ring_with_something_hung_to_it(self):
        self.each_order(0, 11, 6, 5)
        self.each_order(0, 11, 22, 5)
        self.each_order(0, 3, 6, 5, 12, 24)

    def test_larger_masks(self):
        self.each_order(1, 7, 14, 28)
        self.each_order(0, 7, 28, 19)
        self.each_order(0, 7, 11, 13, 14)
        self.each_order(0, 15, 23, 27)
        self.each_order(1, 15, 23)

    def test_several_of_the_same_mask(self):
        self.assertEqual(tree(6, 6), 1)
        self.assertEqual(tree(*[31] * 8), 1)
        self.assertEqual(tree(*[3, 12] * 4), 1)
        self.assertEqual(tree(3, 6, 3, 12, 6), 1)
        self.assertEqual(tree(3, 6, 3, 5, 6, 5), 0)

    def test_no_question_in_common(self):
        self.each_order(1, 1, 2, 4, 8, 16)
        self.each_order(1, 3, 4, 24)
        self.each_order(1, 3, 4, 24, 3)

    def test_every_three_masks(self):
        for masks in itertools.combinations_with_replacement(range(1, 32), 3):
            with self.subTest(masks=masks):
                self.assertEqual(tree(*masks), expected_tree(masks))

    def test_many_masks(self):
        chance = random.Random(8)
        pools = ([3, 5, 6, 9, 10, 12, 17, 18, 20, 24], [7, 11, 13, 14, 19, 21, 22, 25, 26, 28], list(range(1, 32)))
        seen = {0: 0, 1: 0}
        for turn in range(1500):
            masks = [chance.choice(pools[turn % 3]) for i in range(chance.randrange(3, 9))]
            expected = expected_tree(masks)
            seen[expected] += 1
            with self.subTest(masks=masks):
                self.assertEqual(tree_by_the_words(masks), expected)
                self.assertEqual(tree(*masks), expected)
        self.assertGreater(min(seen.values()), 100)

    def test_the_weights_change_nothing(self):
        for factor in (0, 1, 7):
            tables = [add(mask, [(factor * place) % 5 for place in range(size(mask))]) for mask in (3, 6, 5)]
            self.assertEqual(run(*tables[:2], TREE, tables[2], TREE)[2:], [1, 2, 0])

    def test_the_tables_are_as_they_were(self):
        tables = [add(3, [1, 2, 3, 4]), add(6, [5, 6, 7, 8]), add(3, [9, 8, 7, 6])]
        look = [share(i, mask, told) for i in range(4) for mask in (0, 1, 2, 3, 4, 6) for told in (0, 7)]
        told = run(*tables, *look, TREE, add(0, []), TREE)
        self.assertEqual(told[-3:], [1, -1, 1])
        again = run(*tables, TREE, *look, add(5, [1, 1, 1, 1]), TREE, share(3, 5, 5))
        self.assertEqual(again[4:4 + len(look)], told[3:3 + len(look)])
        self.assertEqual(again[-3:], [3, 0, 1])


if __name__ == "__main__":
    unittest.main()
