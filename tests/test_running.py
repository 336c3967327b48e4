"""sortweb.running: how a row goes through a web, comparer by comparer."""

import itertools
import unittest

from oddities import Sulky, no_lists, no_whole_numbers
from plain import all_rows, bubbling, out_of, stations, webs
from refusals import RefusesNoWebs
from sortweb.errors import BadRow
from sortweb.running import run, steps

GREAT = 10 ** 60
LONG = 10 ** 3999


def some_rows(lines):
    """Rows of like and unlike numbers, great ones and such below nought among them."""
    rising = list(range(lines))
    return [
        rising, rising[::-1], [7] * lines, [-k for k in rising], [k * k % 5 - 2 for k in rising],
        [(k % 3 - 1) * GREAT for k in rising], [k * 7 % 10 for k in rising], [0] * (lines - 1) + [-GREAT],
        [GREAT + k for k in rising[::-1]], [-GREAT - k for k in rising],
    ]


class Run(unittest.TestCase):
    def test_a_straight_comparer(self):
        self.assertEqual(run(2, [(0, 1)], [5, 3]), [3, 5])
        self.assertEqual(run(2, [(0, 1)], [3, 5]), [3, 5])

    def test_a_turned_comparer(self):
        self.assertEqual(run(2, [(1, 0)], [3, 5]), [5, 3])
        self.assertEqual(run(2, [(1, 0)], [5, 3]), [5, 3])

    def test_like_numbers(self):
        for comparer in ((0, 1), (1, 0)):
            self.assertEqual(run(2, [comparer], [4, 4]), [4, 4])
        self.assertEqual(run(4, [(0, 3), (2, 1)], [4, 1, 1, 4]), [4, 1, 1, 4])

    def test_lines_without_the_comparer_stay(self):
        self.assertEqual(run(5, [(1, 3)], [9, 8, 7, 6, 5]), [9, 6, 7, 8, 5])
        self.assertEqual(run(5, [(3, 1)], [5, 6, 7, 8, 9]), [5, 8, 7, 6, 9])

    def test_one_by_one_in_their_order(self):
        self.assertEqual(run(3, [(0, 1), (1, 2)], [3, 2, 1]), [2, 1, 3])
        self.assertEqual(run(3, [(1, 2), (0, 1)], [3, 2, 1]), [1, 3, 2])
        self.assertEqual(run(4, [(0, 1), (3, 2)], [8, 2, 1, 9]), [2, 8, 9, 1])

    def test_the_same_comparer_again_and_turned(self):
        self.assertEqual(run(2, [(0, 1), (0, 1)], [5, 3]), [3, 5])
        self.assertEqual(run(2, [(0, 1), (1, 0)], [5, 3]), [5, 3])
        self.assertEqual(run(2, [(0, 1)] * 59 + [(1, 0)], [3, 5]), [5, 3])

    def test_without_comparers(self):
        for lines in range(1, 11):
            for row in some_rows(lines):
                self.assertEqual(run(lines, [], row), row)

    def test_great_numbers(self):
        self.assertEqual(run(3, [(0, 1), (1, 2)], [GREAT, -GREAT, 0]), [-GREAT, 0, GREAT])
        self.assertEqual(run(2, [(0, 1)], [GREAT + 1, GREAT]), [GREAT, GREAT + 1])
        self.assertEqual(run(2, [(0, 1)], [-GREAT, -GREAT - 1]), [-GREAT - 1, -GREAT])
        self.assertEqual(run(2, [(1, 0)], [GREAT, GREAT + 1]), [GREAT + 1, GREAT])

    def test_numbers_of_4000_figures(self):
        self.assertEqual(run(3, [(0, 1), (1, 2)], [LONG + 1, LONG, -LONG]), [LONG, -LONG, LONG + 1])
        self.assertEqual(run(2, [(0, 1)], [-LONG, -LONG - 1]), [-LONG - 1, -LONG])

    def test_webs_that_sort(self):
        for lines in range(1, 11):
            for row in some_rows(lines):
                self.assertEqual(run(lines, bubbling(lines), row), sorted(row))
        for row in itertools.permutations(range(6)):
            self.assertEqual(run(6, bubbling(6), list(row)), list(range(6)))

    def test_many_webs(self):
        for lines, comparers in webs():
            for row in some_rows(lines) + (all_rows(lines) if lines < 4 else []):
                self.assertEqual(run(lines, comparers, row), out_of(comparers, row))

    def test_whole_numbers_come_out(self):
        self.assertEqual([type(number) for number in run(3, [(0, 1), (2, 1)], [1, 0, 1])], [int] * 3)


class Steps(unittest.TestCase):
    def test_the_rows_ahead_and_the_last_one(self):
        self.assertEqual(
            steps(3, [(0, 1), (1, 2), (0, 1)], [3, 2, 1]), [[3, 2, 1], [2, 3, 1], [2, 1, 3], [1, 2, 3]])
        self.assertEqual(steps(2, [(1, 0), (0, 1)], [4, 6]), [[4, 6], [6, 4], [4, 6]])

    def test_where_nothing_is_exchanged(self):
        self.assertEqual(steps(2, [(0, 1), (0, 1)], [4, 6]), [[4, 6]] * 3)
        self.assertEqual(steps(2, [(0, 1), (1, 0)], [5, 5]), [[5, 5]] * 3)

    def test_without_comparers(self):
        self.assertEqual(steps(1, [], [GREAT]), [[GREAT]])
        self.assertEqual(steps(3, [], [3, 1, 2]), [[3, 1, 2]])

    def test_many_webs(self):
        for lines, comparers in webs():
            for row in some_rows(lines):
                told = steps(lines, comparers, row)
                self.assertEqual(told, stations(comparers, row))
                self.assertEqual(len(told), len(comparers) + 1)
                self.assertEqual(told[0], row)
                self.assertEqual(told[-1], run(lines, comparers, row))

    def test_numbers_of_4000_figures(self):
        self.assertEqual(steps(2, [(0, 1)], [LONG, LONG - 1]), [[LONG, LONG - 1], [LONG - 1, LONG]])


class HandedInAndTold(unittest.TestCase):
    COMPARERS = [(0, 1), (2, 1), (0, 1)]
    ROWS = [[3, 1, 2], [1, 2, 1], [0, 0, 0]]

    def test_what_is_handed_in_stays_as_it_was(self):
        for ask in (run, steps):
            for before in self.ROWS:
                comparers, row = list(self.COMPARERS), list(before)
                ask(3, comparers, row)
                self.assertEqual((comparers, row), (self.COMPARERS, before))

    def test_what_is_done_later_changes_nothing(self):
        for ask in (run, steps):
            for before in self.ROWS:
                comparers, row = list(self.COMPARERS), list(before)
                told = ask(3, comparers, row)
                row[0] = 99
                row.append(5)
                comparers.reverse()
                del comparers[1:]
                self.assertEqual(told, ask(3, list(self.COMPARERS), list(before)))

    def test_the_told_row_is_the_askers_own(self):
        for comparers in ([], [(0, 1)], self.COMPARERS):
            for before in self.ROWS:
                row = list(before)
                told = run(3, comparers, row)
                self.assertIs(type(told), list)
                told[0] = 99
                told.append(5)
                self.assertEqual(row, before)
                self.assertEqual(run(3, comparers, row), out_of(comparers, before))

    def test_each_of_the_told_rows_is_the_askers_own(self):
        for comparers in ([], [(0, 1)], self.COMPARERS):
            for before in self.ROWS:
                row = list(before)
                meant = stations(comparers, before)
                for place in range(len(meant)):
                    told = steps(3, comparers, row)
                    told[place][0] = 99
                    told[place].append(5)
                    self.assertEqual(told[:place] + told[place + 1:], meant[:place] + meant[place + 1:])
                    self.assertEqual(row, before)
                told = steps(3, comparers, row)
                told.clear()
                self.assertEqual(steps(3, comparers, row), meant)
                self.assertTrue(all(type(each) is list for each in steps(3, comparers, row)))


class RowsRefused(unittest.TestCase):
    def refused(self, lines, comparers, row):
        for ask in (run, steps):
            with self.assertRaises(BadRow):
                ask(lines, comparers, row)

    def test_too_short_or_too_long(self):
        for lines in range(1, 11):
            for many in range(13):
                if many != lines:
                    self.refused(lines, [], [0] * many)
                    self.refused(lines, [(0, 1)] if lines > 1 else [], list(range(many)))

    def test_no_list(self):
        for row in no_lists():
            self.refused(1, [], row)
            self.refused(2, [(0, 1)], row)

    def test_what_is_no_whole_number_in_it(self):
        for number in no_whole_numbers():
            self.refused(1, [], [number])
            for place in range(3):
                row = [0, 1, 2]
                row[place] = number
                self.refused(3, [], row)
                self.refused(3, [(0, 2)], row)

    def test_true_and_false_are_no_numbers(self):
        self.refused(2, [(0, 1)], [True, False])
        self.refused(2, [], [0, True])
        self.refused(2, [(1, 0)], [False, 1])

    def test_what_is_refused_stays_as_it_was(self):
        comparers, row = [(0, 1), (1, 2)], [3, 2, None]
        self.refused(3, comparers, row)
        self.assertEqual((comparers, row), ([(0, 1), (1, 2)], [3, 2, None]))


class WebsRefused(RefusesNoWebs, unittest.TestCase):
    ASKS = [
        lambda lines, comparers: run(lines, comparers, [0, 1]),
        lambda lines, comparers: run(lines, comparers, Sulky()),
        lambda lines, comparers: run(lines, comparers, [None]),
        lambda lines, comparers: steps(lines, comparers, [0, 1]),
        lambda lines, comparers: steps(lines, comparers, Sulky()),
        lambda lines, comparers: steps(lines, comparers, None),
    ]


class Places(unittest.TestCase):
    def test_each_is_defined_in_running(self):
        for function in (run, steps):
            self.assertEqual(function.__module__, "sortweb.running")

    def test_arguments_by_their_names(self):
        self.assertEqual(run(lines=2, comparers=[(0, 1)], row=[1, 0]), [0, 1])
        self.assertEqual(steps(lines=2, comparers=[(0, 1)], row=[1, 0]), [[1, 0], [0, 1]])


if __name__ == "__main__":
    unittest.main()
