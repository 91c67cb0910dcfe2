"""All calls together: in any order, with add, begin and refusals between them."""

import random
import unittest

from agreeingtables.questions import answers
from lines import (
    ALL_ASKED, BEGIN, LEAST, MOST, add, agreeing_tables, expected_agree, expected_covered, expected_joint,
    expected_possible, expected_share, expected_tree, flat, run, share, size, tables_from, zeros)

WRONG = [
    add(0, []), add(0, [1]), add(32, [1, 1]), add(-1, [0] * 32), add(1, []), add(1, [1]), add(31, [1] * 16),
    add(3, [0, 0, 0, 1001]), add(LEAST, []), add(MOST, [65535] * 32),
]
NONE = [1, 1, 32, 1, 1]


def expected_asked(tables):
    return [
        expected_agree(tables), expected_joint(tables), expected_possible(tables), expected_covered(tables),
        expected_tree([mask for mask, weights in tables])]


class NoTables(unittest.TestCase):
    def test_at_the_beginning(self):
        self.assertEqual(run(*ALL_ASKED), NONE)

    def test_behind_a_begin_that_comes_again(self):
        told = run(add(3, [1, 0, 0, 1]), add(6, [1, 0, 0, 1]), add(5, [0, 1, 1, 0]), *ALL_ASKED, BEGIN, *ALL_ASKED)
        self.assertEqual(told, [0, 1, 2] + [1, 0, 0, 0, 0] + [0] + NONE)
        self.assertEqual(run(BEGIN, BEGIN, *ALL_ASKED), [0, 0] + NONE)

    def test_behind_refusals(self):
        self.assertEqual(run(*WRONG, share(0, 0, 0), *ALL_ASKED), [-1] * (len(WRONG) + 1) + NONE)


class BehindRefusals(unittest.TestCase):
    def test_of_wrong_tables(self):
        for wrong in WRONG:
            tables = [(3, [1, 2, 3, 4]), (6, [1, 5, 2, 2]), (5, [0, 3, 4, 3])]
            calls = [add(mask, weights) for mask, weights in tables]
            told = run(*calls, *ALL_ASKED, wrong, *ALL_ASKED, share(3, 0, 0), *ALL_ASKED)
            expected = expected_asked(tables)
            with self.subTest(wrong=wrong):
                self.assertEqual(told, [0, 1, 2] + expected + [-1] + expected + [-1] + expected)

    def test_of_a_ninth_table(self):
        eight = [add(3, [2, 0, 0, 2]), add(6, [1, 1, 1, 1])] * 4
        told = run(*eight, *ALL_ASKED, zeros(5), *ALL_ASKED, add(5, [1001] * 4), *ALL_ASKED)
        expected = [1, 1, 16, 1, 1]
        self.assertEqual(told, list(range(8)) + expected + [-2] + expected + [-1] + expected)


class InAnyOrder(unittest.TestCase):
    def random_line(self, chance):
        """Calls behind begin, and what each is to answer; at most 20 of them are joint."""
        calls, expected, tables, joints = [], [], [], 0
        ready = []
        while len(calls) < 60:
            kind = chance.choice([0, 1, 1, 1, 1, 1, 2, 3, 3, 4, 4, 5, 5])
            if kind == 0 and chance.randrange(3) == 0:
                calls.append(BEGIN)
                expected.append(0)
                tables = []
            elif kind == 1:
                if not ready:
                    masks = [chance.choice([3, 5, 6, 12, 10, 7, 14, 24, 16]) for i in range(4)]
                    ready = agreeing_tables(chance, masks)
                mask, weights = ready.pop()
                calls.append(add(mask, weights))
                expected.append(len(tables) if len(tables) < 8 else -2)
                if len(tables) < 8:
                    tables = tables + [(mask, weights)]
            elif kind == 2:
                calls.append(chance.choice(WRONG + [share(-1, 0, 0), share(8, 0, 0), share(0, 32, 0), share(0, 0, -1)]))
                expected.append(-1)
            elif kind == 3 and tables:
                i, told = chance.randrange(len(tables)), chance.randrange(32)
                mask = chance.randrange(32) & tables[i][0]
                calls.append(share(i, mask, told))
                expected.append(expected_share(*tables[i], mask, told))
            elif kind == 4:
                which = chance.choice([0, 2, 3, 4])
                calls.append(ALL_ASKED[which])
                expected.append(expected_asked(tables)[which])
            elif kind == 5 and joints < 20:
                joints += 1
                calls.append(ALL_ASKED[1])
                expected.append(expected_joint(tables))
        return calls, expected

    def test_random_lines(self):
        chance = random.Random(17)
        seen = []
        for turn in range(12):
            calls, expected = self.random_line(chance)
            handed = flat([BEGIN] + calls)
            before = list(handed)
            given = answers(handed)
            with self.subTest(calls=calls):
                self.assertEqual(given[1::2], [0] + expected)
                self.assertEqual(given[::2], [1] * (len(calls) + 1))
                self.assertEqual(handed, before)
            seen.append((handed, given))
        for handed, given in seen + seen[::-1]:
            self.assertEqual(answers(handed), given)

    def test_each_call_behind_each_other_one(self):
        tables = [(7, [2, 1, 0, 3, 1, 1, 2, 2]), (12, [3, 3, 2, 4]), (3, [3, 2, 2, 5])]
        calls = [add(mask, weights) for mask, weights in tables]
        expected = expected_asked(tables)
        for i, first in enumerate(ALL_ASKED):
            for j, second in enumerate(ALL_ASKED):
                with self.subTest(first=first, second=second):
                    told = run(*calls, first, second, first, second)
                    self.assertEqual(told[3:], [expected[i], expected[j]] * 2)

    def test_agreeing_is_enough_for_a_tree(self):
        chance = random.Random(23)
        for masks in ((3, 6, 12, 24), (7, 14, 28), (15, 27, 9), (3, 5, 9, 17), (3, 6, 5, 7)):
            for turn in range(10):
                tables = agreeing_tables(chance, masks)
                told = run(*[add(mask, weights) for mask, weights in tables], *ALL_ASKED)[len(masks):]
                with self.subTest(tables=tables):
                    self.assertEqual((told[0], told[1], told[3], told[4]), (1, 1, 1, 1))


class AHundredCalls(unittest.TestCase):
    def test_of_the_greatest_tables_and_twenty_joint(self):
        whole = [(told * 97 + 41) % 1001 for told in range(32)]
        eight = [add(mask, weights) for mask, weights in tables_from(whole, [31] * 8)]
        asked = ALL_ASKED * 18 + [ALL_ASKED[1]]
        told = run(*eight, *asked)
        self.assertEqual(len(told), 99)
        self.assertEqual(told, list(range(8)) + [1, 1, 32 - whole.count(0), 1, 1] * 18 + [1])

    def test_begin_and_the_rest_over_and_over(self):
        once = [add(3, [1, 0, 0, 1]), add(6, [1, 0, 0, 1]), add(5, [0, 1, 1, 0])] + ALL_ASKED + [BEGIN]
        self.assertEqual(run(*once * 11), [0, 1, 2, 1, 0, 0, 0, 0, 0] * 11)

    def test_each_size_of_table(self):
        for mask in range(1, 32):
            weights = [place % 2 for place in range(size(mask))]
            told = run(add(mask, weights), *ALL_ASKED)
            with self.subTest(mask=mask):
                self.assertEqual(told, [0, 1, 1, 16, 1, 1])


if __name__ == "__main__":
    unittest.main()
