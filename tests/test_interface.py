"""The interface: how calls stand in the one list, what is given back, and that nothing is changed or kept."""

import builtins
import contextlib
import io
import sys
import unittest
from unittest import mock

from agreeingtables.questions import UnknownCall, answers
from lines import AGREE, ALL_ASKED, BEGIN, JOINT, LEAST, MOST, POSSIBLE, add, flat, share

LINE = flat([
    BEGIN, add(3, [1, 2, 3, 4]), share(0, 1, 1), add(0, []), share(0, 4, 0), AGREE, add(3, [4, 3, 2, 1]), AGREE,
    BEGIN, AGREE, share(0, 0, 0), add(3, [1, 0, 0, 1]), add(6, [1, 0, 0, 1]), JOINT, POSSIBLE, add(5, [0, 1, 1, 0]),
] + ALL_ASKED)
GIVEN = [
    1, 0, 1, 0, 1, 6, 1, -1, 1, -1, 1, 1, 1, 1, 1, 0,
    1, 0, 1, 1, 1, -1, 1, 0, 1, 1, 1, 1, 1, 8, 1, 2,
    1, 1, 1, 0, 1, 0, 1, 0, 1, 0,
]
OTHER = flat([BEGIN, add(1, [7, 8]), add(2, [9, 9]), share(1, 2, 2)] + ALL_ASKED)
OTHER_GIVEN = [1, 0, 1, 0, 1, 1, 1, 9, 1, 0, 1, 0, 1, 32, 1, 1, 1, 1]


def refuse(*values, **named):
    raise AssertionError("this is not to be called")


class Guarded(list):
    """A list that can't be changed, not for a while either."""

    __setitem__ = __delitem__ = __iadd__ = __imul__ = refuse
    append = clear = extend = insert = pop = remove = reverse = sort = refuse


class GivenBack(unittest.TestCase):
    def test_for_each_call_how_many_numbers_and_these(self):
        self.assertEqual(answers(LINE), GIVEN)
        self.assertEqual(answers(OTHER), OTHER_GIVEN)

    def test_it_is_a_list_of_whole_numbers(self):
        given = answers(LINE)
        self.assertIs(type(given), list)
        self.assertEqual({type(number) for number in given}, {int})

    def test_the_count_of_weights_tells_where_the_next_call_begins(self):
        self.assertEqual(answers([0, 1, 5, 0, 3, 1, 1, 3, 3, 3, 3, 1, 1, 2, 3, 3, 3]), [1, 0, 1, -1, 1, 1, 1, -1, 1, 0, 1, 1])

    def test_numbers_at_the_ends_of_their_range(self):
        line = flat([
            BEGIN, add(LEAST, [65535] * 32), add(MOST, []), share(LEAST, LEAST, LEAST), share(MOST, MOST, MOST), AGREE])
        self.assertEqual(answers(line), [1, 0, 1, -1, 1, -1, 1, -1, 1, -1, 1, 1])

    def test_a_hundred_calls_of_the_greatest_size(self):
        table = add(31, [1000] * 32)
        given = answers(flat([BEGIN] + [table] * 99))
        self.assertEqual(given[1::2], [0] + list(range(8)) + [-2] * 91)
        self.assertEqual(given[::2], [1] * 100)

    def test_a_hundred_calls_most_of_them_agree(self):
        given = answers(flat([BEGIN] + [add(31, list(range(32)))] * 8 + [AGREE] * 91))
        self.assertEqual(given[1::2], [0] + list(range(8)) + [1] * 91)

    def test_each_number_stands_for_its_call(self):
        for tables, expected in (
            ([add(mask, [1, 4, 4, 1]) for mask in (3, 6, 5)], [1, 0, 32, 1, 0]),
            ([add(3, [1, 0, 0, 1]), add(6, [1, 0, 0, 1]), add(5, [0, 1, 1, 0])], [1, 0, 0, 0, 0]),
            ([add(3, [1, 2, 3, 4]), add(6, [4, 3, 2, 0])], [0, 0, 24, 1, 1]),
        ):
            with self.subTest(tables=tables):
                self.assertEqual([answers(flat([BEGIN] + tables) + [number])[-1] for number in range(3, 8)], expected)

    def test_a_number_that_no_call_has(self):
        for number in (-1, 8, 100):
            with self.subTest(number=number):
                with self.assertRaises(UnknownCall):
                    answers([0, number])


class HandedIn(unittest.TestCase):
    def test_the_list_is_the_same_behind_the_call(self):
        for line in (LINE, OTHER):
            handed = list(line)
            answers(handed)
            self.assertEqual(handed, line)

    def test_the_list_is_not_changed_for_a_while_either(self):
        handed = Guarded(LINE)
        self.assertEqual(answers(handed), GIVEN)
        self.assertEqual(list(handed), LINE)

    def test_what_is_given_back_is_another_list(self):
        handed = list(LINE)
        given = answers(handed)
        given.clear()
        self.assertEqual(handed, LINE)


class NothingKept(unittest.TestCase):
    def test_the_same_call_twice(self):
        self.assertEqual(answers(LINE), GIVEN)
        self.assertEqual(answers(LINE), GIVEN)

    def test_with_other_lists_between(self):
        for line, given in ((OTHER, OTHER_GIVEN), (LINE, GIVEN), (OTHER, OTHER_GIVEN), (BEGIN, [1, 0]), (LINE, GIVEN)):
            self.assertEqual(answers(line), given)

    def test_a_list_begins_without_tables_whatever_came_before(self):
        answers(flat([BEGIN] + [add(1, [1, 2])] * 8))
        line = flat([BEGIN, share(0, 0, 0), AGREE, add(1, [2, 2]), share(1, 0, 0), AGREE])
        self.assertEqual(answers(line), [1, 0, 1, -1, 1, 1, 1, 0, 1, -1, 1, 1])

    def test_behind_a_list_that_failed(self):
        with self.assertRaises(UnknownCall):
            answers(flat([BEGIN, add(1, [1, 2]), [99]]))
        self.assertEqual(answers(LINE), GIVEN)

    def test_changing_what_was_given_back_changes_nothing(self):
        answers(LINE).append(5)
        self.assertEqual(answers(LINE), GIVEN)


class NothingElseDone(unittest.TestCase):
    def test_nothing_is_printed(self):
        printed = io.StringIO()
        with contextlib.redirect_stdout(printed), contextlib.redirect_stderr(printed):
            answers(LINE)
        self.assertEqual(printed.getvalue(), "")

    def test_nothing_is_read_or_imported(self):
        with mock.patch.object(builtins, "open", refuse), mock.patch.object(sys, "stdin", None):
            with mock.patch.object(builtins, "__import__", refuse):
                given = answers(LINE)
        self.assertEqual(given, GIVEN)


if __name__ == "__main__":
    unittest.main()
