"""Promise 5: joint answers whether there are numbers, none below 0, for all answers that all tables come from."""

import itertools
import random
import time
import unittest
from fractions import Fraction

from lines import (
    AGREE, BEGIN, JOINT, add, agreeing_tables, ask, expected_agree, expected_joint, run, share, size, table_from,
    tables_from)

WHOLE = [(told * told * 7 + 5 * told + 3) % 23 for told in range(32)]
ALIKE = [1, 0, 0, 1]
UNLIKE = [0, 1, 1, 0]

SIX_PAIRS = (3, 5, 9, 6, 10, 12)
RINGS = ((3, 6, 5), (5, 9, 6, 10), (3, 6, 12, 24, 17))
FOURS = (15, 23, 27, 29, 30)
THREES = (7, 11, 19, 13, 21, 25, 14, 22)
PAIRS = (3, 6, 12, 24, 17, 5, 10, 20)


def joint(*tables):
    return ask(JOINT, tables)


def times(factor, tables):
    return [(mask, [factor * weight for weight in weights]) for mask, weights in tables]


def alike_less_unlike(weights):
    return weights[0] - weights[1] - weights[2] + weights[3]


def ring_comes_from_one(tables):
    """For tables that agree, about two questions each, round a ring. Whatever is answered beforehand, going round the
    ring the answer changes an even number of times; that no choice of an odd number of tables goes against this is
    all that is asked of them."""
    most = (len(tables) - 2) * sum(tables[0][1])
    turns = [alike_less_unlike(weights) for mask, weights in tables]
    return int(all(
        sum(sign * turn for sign, turn in zip(signs, turns)) <= most
        for signs in itertools.product((1, -1), repeat=len(tables)) if signs.count(-1) % 2 == 1))


class FewTables(unittest.TestCase):
    def test_no_table(self):
        self.assertEqual(joint(), 1)
        self.assertEqual(run(add(1, [1, 2]), add(1, [2, 1]), JOINT, BEGIN, JOINT), [0, 1, 0, 0, 1])

    def test_one_table(self):
        for mask in range(1, 32):
            with self.subTest(mask=mask):
                self.assertEqual(joint((mask, [(3 * place) % 7 for place in range(size(mask))])), 1)
                self.assertEqual(joint((mask, [1000] * size(mask))), 1)

    def test_one_table_of_zeros(self):
        for mask in range(1, 32):
            with self.subTest(mask=mask):
                self.assertEqual(joint((mask, [0] * size(mask))), 1)

    def test_one_weight_alone(self):
        for place in range(16):
            weights = [0] * 16
            weights[place] = 1
            with self.subTest(place=place):
                self.assertEqual(joint((29, weights)), 1)

    def test_two_tables_that_do_not_agree(self):
        self.assertEqual(joint((3, [1, 2, 3, 4]), (6, [5, 1, 2, 2])), 0)
        self.assertEqual(joint((3, [1, 2, 3, 4]), (4, [0, 9])), 0)
        self.assertEqual(joint((1, [1, 1]), (2, [2, 2])), 0)
        self.assertEqual(joint((3, ALIKE), (3, UNLIKE)), 0)
        self.assertEqual(joint((3, [0] * 4), (24, [0, 0, 0, 1])), 0)

    def test_two_tables_come_from_one_just_if_they_agree(self):
        for first, second in itertools.product(range(1, 32), range(1, 32, 4)):
            weights = table_from(WHOLE, second)
            with self.subTest(first=first, second=second):
                self.assertEqual(joint((first, table_from(WHOLE, first)), (second, weights)), 1)
                weights[0] += 1
                self.assertEqual(joint((first, table_from(WHOLE, first)), (second, weights)), 0)


class FromOne(unittest.TestCase):
    def test_tables_of_all_sizes(self):
        self.assertEqual(joint(*tables_from(WHOLE, [3, 6, 12, 24, 17, 7, 21, 31])), 1)
        self.assertEqual(joint(*tables_from(WHOLE, [1, 2, 4, 8, 16, 30, 15, 27])), 1)

    def test_tables_of_one_size(self):
        for masks in (FOURS, THREES, PAIRS, SIX_PAIRS) + RINGS:
            with self.subTest(masks=masks):
                self.assertEqual(joint(*tables_from(WHOLE, masks)), 1)

    def test_of_one_answers_to_all_alone(self):
        for told in range(32):
            whole = [0] * 32
            whole[told] = 5
            with self.subTest(told=told):
                self.assertEqual(joint(*tables_from(whole, PAIRS)), 1)

    def test_by_fractions_alone(self):
        self.assertEqual(joint(*[(mask, [1] * 4) for mask in SIX_PAIRS]), 1)
        self.assertEqual(joint(*[(mask, [1] * 4) for mask in PAIRS]), 1)
        self.assertEqual(joint((3, [1, 2, 2, 1]), (6, [1, 2, 2, 1]), (5, [1, 2, 2, 1])), 1)

    def test_of_parts_of_one_that_are_whole_only_in_the_tables(self):
        for most, masks in ((3, THREES), (2, PAIRS)):
            for parity in (0, 1):
                part = Fraction(1, 2 ** (4 - most))
                whole = [part * (told.bit_count() % 2 == parity) for told in range(32)]
                tables = tables_from(whole, masks)
                self.assertEqual({weight for mask, weights in tables for weight in weights}, {1})
                self.assertEqual(joint(*[(mask, [int(weight) for weight in weights]) for mask, weights in tables]), 1)

    def test_all_five_questions_beside_their_own_shares(self):
        tables = [(31, WHOLE)] + tables_from(WHOLE, [1, 6, 15, 30, 21, 24, 7])
        self.assertEqual(joint(*tables), 1)
        self.assertEqual(joint(*reversed(tables)), 1)
        for i in range(8):
            with self.subTest(i=i):
                other = [(mask, list(weights)) for mask, weights in tables]
                other[i][1][0] += 1
                other[i][1][1] -= 1
                self.assertEqual(joint(*other), 0)

    def test_several_of_the_same_mask(self):
        self.assertEqual(joint(*[(22, [1, 2, 3, 4, 5, 6, 7, 8])] * 8), 1)
        self.assertEqual(joint(*[(22, [1, 2, 3, 4, 5, 6, 7, 8])] * 7, (22, [1, 2, 3, 4, 5, 6, 8, 7])), 0)
        self.assertEqual(joint((3, ALIKE), (6, ALIKE), (3, ALIKE), (5, ALIKE), (6, ALIKE)), 1)
        self.assertEqual(joint((3, ALIKE), (6, ALIKE), (3, ALIKE), (5, UNLIKE), (6, ALIKE)), 0)

    def test_without_a_question_in_common(self):
        self.assertEqual(joint((3, [1, 2, 3, 4]), (4, [0, 10]), (24, [10, 0, 0, 0])), 1)
        self.assertEqual(joint((3, [1, 2, 3, 4]), (4, [0, 10]), (24, [10, 0, 0, 1])), 0)

    def test_of_zeros(self):
        self.assertEqual(joint(*[(mask, [0] * 4) for mask in PAIRS]), 1)
        self.assertEqual(joint(*[(mask, [0] * 4) for mask in PAIRS[:7]], (4, [0, 1])), 0)

    def test_weights_up_to_1000(self):
        self.assertEqual(joint(*[(mask, [1000] * 4) for mask in PAIRS]), 1)
        self.assertEqual(joint(*[(mask, [1000] * 16) for mask in FOURS]), 1)
        whole = [(told * 617 + 389) % 501 for told in range(32)]
        self.assertEqual(joint(*tables_from(whole, FOURS)), 1)


class NotFromOneThoughAgreeing(unittest.TestCase):
    def check(self, expected, *tables):
        self.assertEqual(ask(AGREE, tables), 1)
        for ordered in (tables, tables[::-1], tables[1:] + tables[:1]):
            self.assertEqual(joint(*ordered), expected)

    def test_two_alike_and_the_third_unlike(self):
        self.check(0, (3, ALIKE), (6, ALIKE), (5, UNLIKE))
        self.check(0, *times(1000, [(3, ALIKE), (6, ALIKE), (5, UNLIKE)]))
        self.check(0, (3, UNLIKE), (6, UNLIKE), (5, UNLIKE))
        self.check(1, (3, UNLIKE), (6, UNLIKE), (5, ALIKE))

    def test_all_questions_in_threes(self):
        for first, second, third in itertools.combinations(range(5), 3):
            masks = [(1 << first) + (1 << second), (1 << second) + (1 << third), (1 << first) + (1 << third)]
            for kinds in itertools.product((ALIKE, UNLIKE), repeat=3):
                with self.subTest(masks=masks, kinds=kinds):
                    self.check(int(kinds.count(UNLIKE) % 2 == 0), *zip(masks, kinds))

    def test_rings_of_four_and_five(self):
        for masks in RINGS[1:]:
            for kinds in itertools.product((ALIKE, UNLIKE), repeat=len(masks)):
                with self.subTest(masks=masks, kinds=kinds):
                    self.check(int(kinds.count(UNLIKE) % 2 == 0), *zip(masks, kinds))

    def test_about_three_questions_with_an_odd_number_answered_by_1(self):
        odd = [0, 1, 1, 0, 1, 0, 0, 1]
        self.check(1, (7, odd), (11, odd))
        self.check(1, (7, odd), (11, odd), (12, [2, 0, 0, 2]))
        self.check(0, (7, odd), (11, odd), (12, [0, 2, 2, 0]))
        # The three leave question 0 no other answer than 1, and each of them gives it both.
        self.check(0, (7, odd), (11, odd), (13, odd))

    def test_a_change_by_1_in_the_ring_of_three(self):
        self.check(1, *[(mask, [167, 333, 333, 167]) for mask in RINGS[0]])
        self.check(0, *[(mask, [166, 334, 334, 166]) for mask in RINGS[0]])

    def test_a_change_by_1_in_the_ring_of_four(self):
        three = [(mask, [375, 125, 125, 375]) for mask in RINGS[1][:3]]
        self.check(1, *three, (10, [125, 375, 375, 125]))
        self.check(0, *three, (10, [124, 376, 376, 124]))
        self.check(1, *three, (10, [126, 374, 374, 126]))
        self.check(0, *three[:2], (6, [376, 124, 124, 376]), (10, [125, 375, 375, 125]))

    def test_a_change_by_1_that_no_ring_tells(self):
        self.check(1, *[(mask, [3, 3, 3, 1]) for mask in SIX_PAIRS])
        self.check(1, *[(mask, [900, 900, 900, 300]) for mask in SIX_PAIRS])
        self.check(0, *[(mask, [899, 901, 901, 299]) for mask in SIX_PAIRS])
        for masks in itertools.combinations(SIX_PAIRS, 5):
            self.check(1, *[(mask, [899, 901, 901, 299]) for mask in masks])

    def test_a_change_by_1_in_tables_about_four_questions(self):
        # What the tables leave open is one number that is added where an even number of questions is answered by 1,
        # and taken away elsewhere: answers 0 ask that it be 1 or more, and in the second case answers 7 that it be 0.
        whole = [told.bit_count() % 2 for told in range(32)]
        whole[0] = -1
        self.check(1, *tables_from(whole, FOURS))
        whole[7] -= 1
        whole[31] += 1
        self.check(0, *tables_from(whole, FOURS))


class HeldAgainstProofs(unittest.TestCase):
    def check(self, seed, pool, rounds):
        chance = random.Random(seed)
        seen = {0: 0, 1: 0}
        for turn in range(rounds):
            tables = agreeing_tables(chance, [chance.choice(pool) for i in range(chance.randrange(3, 9))])
            expected = expected_joint(tables)
            seen[expected] += 1
            with self.subTest(tables=tables):
                self.assertEqual(joint(*tables), expected)
        self.assertGreater(min(seen.values()), 0)

    def test_rings(self):
        chance = random.Random(5)
        seen = {0: 0, 1: 0}
        for turn in range(600):
            tables = agreeing_tables(chance, RINGS[turn % 3])
            expected = ring_comes_from_one(tables)
            seen[expected] += 1
            with self.subTest(tables=tables):
                self.assertEqual(joint(*tables), expected)
        self.assertGreater(min(seen.values()), 50)

    def test_about_two_questions(self):
        self.check(2, [mask for mask in range(32) if mask.bit_count() == 2], 60)

    def test_about_three_questions(self):
        self.check(3, [mask for mask in range(32) if mask.bit_count() == 3], 40)

    def test_about_four_questions(self):
        self.check(4, FOURS, 25)

    def test_about_any_questions(self):
        self.check(6, range(1, 31), 50)

    def test_weights_changed_by_1(self):
        chance = random.Random(8)
        for turn in range(60):
            tables = agreeing_tables(chance, [chance.choice(PAIRS + THREES) for i in range(5)])
            mask, weights = chance.choice(tables)
            from_place, to_place = chance.randrange(len(weights)), chance.randrange(len(weights))
            if weights[from_place] > 0:
                weights[from_place] -= 1
                weights[to_place] += 1
            with self.subTest(tables=tables):
                self.assertEqual(joint(*tables), expected_joint(tables))
                self.assertLessEqual(joint(*tables), expected_agree(tables))


class InALine(unittest.TestCase):
    def test_a_table_more_may_end_it(self):
        told = run(add(3, ALIKE), JOINT, add(6, ALIKE), JOINT, add(5, UNLIKE), JOINT, add(31, [0] * 32), JOINT)
        self.assertEqual(told, [0, 1, 1, 1, 2, 0, 3, 0])

    def test_asking_changes_nothing(self):
        told = run(
            add(3, ALIKE), add(6, ALIKE), JOINT, JOINT, share(1, 6, 0), add(5, UNLIKE), JOINT, JOINT, share(2, 5, 1))
        self.assertEqual(told, [0, 1, 1, 1, 1, 2, 0, 0, 1])

    def test_twenty_calls_on_eight_large_tables_end_soon(self):
        chance = random.Random(13)
        whole = [chance.randrange(250) for told in range(32)]
        for masks in (FOURS + FOURS[:3], FOURS + (31,) * 3, (31,) * 8, THREES):
            for tables in (tables_from(whole, masks), tables_from([0] * 32, masks), agreeing_tables(chance, masks)):
                calls = [add(mask, weights) for mask, weights in tables] + [JOINT] * 20
                expected = expected_joint(tables)
                began = time.monotonic()
                told = run(*calls)
                with self.subTest(tables=tables):
                    self.assertLess(time.monotonic() - began, 20)
                    self.assertEqual(told, list(range(8)) + [expected] * 20)


if __name__ == "__main__":
    unittest.main()
