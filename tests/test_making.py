"""sortweb.making: webs that merge and that sort, and webs beside one another."""

import itertools
import unittest

from oddities import LikeAll, Sulky, SulkyInt, no_whole_numbers
from plain import all_rows, bubbling, out_of, small_webs
from refusals import RefusesNoWebs
from sortweb.errors import BadLines, BadWeb
from sortweb.looking import unsorted
from sortweb.making import beside, merging, sorting
from sortweb.webs import need_web

PARTS = [(many, more) for many in range(11) for more in range(11) if 1 <= many + more <= 10]
GREAT = 10 ** 60


class MadeCase(unittest.TestCase):
    def is_made_web(self, lines, comparers):
        self.assertIsNone(need_web(lines, comparers))
        self.assertLessEqual(len(comparers), 60)
        for a, b in comparers:
            self.assertLess(a, b)

    def made_anew(self, ask):
        """That ask tells the same again, whatever has been done to what it told."""
        meant = list(ask())
        for change in (list.clear, list.reverse, lambda told: told.append((1, 0))):
            told = ask()
            self.assertEqual(told, meant)
            change(told)
        self.assertEqual(ask(), meant)


class Merging(MadeCase):
    def test_each_two_parts_make_a_web_of_straight_comparers(self):
        self.assertEqual(len(PARTS), 65)
        for many, more in PARTS:
            self.is_made_web(many + more, merging(many, more))

    def test_rows_of_noughts_and_ones(self):
        for many, more in PARTS:
            comparers = merging(many, more)
            for ones in range(many + 1):
                for others in range(more + 1):
                    row = [0] * (many - ones) + [1] * ones + [0] * (more - others) + [1] * others
                    self.assertEqual(out_of(comparers, row), sorted(row))

    def test_rows_of_unlike_numbers(self):
        for many, more in PARTS:
            comparers = merging(many, more)
            for first in itertools.combinations(range(many + more), many):
                row = list(first) + [number for number in range(many + more) if number not in first]
                self.assertEqual(out_of(comparers, row), list(range(many + more)))

    def test_rows_of_great_and_of_like_numbers(self):
        self.assertEqual(out_of(merging(2, 3), [-GREAT, GREAT, -GREAT - 1, 0, GREAT + 1]), [
            -GREAT - 1, -GREAT, 0, GREAT, GREAT + 1])
        self.assertEqual(out_of(merging(4, 4), [2, 2, 2, 5, 1, 2, 2, 2]), [1, 2, 2, 2, 2, 2, 2, 5])

    def test_two_numbers(self):
        self.assertEqual(out_of(merging(1, 1), [5, 3]), [3, 5])
        self.assertEqual(out_of(merging(1, 1), [3, 5]), [3, 5])

    def test_one_number_is_put_among_nine(self):
        rest = [10, 20, 30, 40, 50, 60, 70, 80, 90]
        for number in range(5, 100, 10):
            self.assertEqual(out_of(merging(1, 9), [number] + rest), sorted([number] + rest))
            self.assertEqual(out_of(merging(9, 1), rest + [number]), sorted([number] + rest))

    def test_an_empty_part(self):
        self.assertEqual(merging(0, 1), [])
        self.assertEqual(merging(1, 0), [])
        for many in range(1, 11):
            for comparers in (merging(0, many), merging(many, 0)):
                self.is_made_web(many, comparers)
                self.assertEqual(out_of(comparers, list(range(many))), list(range(many)))

    def test_the_same_ones_each_time(self):
        for many, more in PARTS:
            self.made_anew(lambda: merging(many, more))


class MergingRefused(unittest.TestCase):
    def refused(self, many, more):
        with self.assertRaises(BadLines):
            merging(many, more)

    def test_no_lines_at_all(self):
        self.refused(0, 0)

    def test_more_than_ten_lines_together(self):
        for many in range(1, 11):
            for more in range(11 - many, 11):
                self.refused(many, more)

    def test_out_of_bounds(self):
        for number in (-1, -2, -10, 11, 12, 100, GREAT, -GREAT, 10 ** 5000):
            for other in range(-1, 12):
                self.refused(number, other)
                self.refused(other, number)

    def test_out_of_bounds_though_together_they_are_not(self):
        for many, more in ((-1, 2), (2, -1), (-1, 11), (11, -1), (12, -2), (-5, 10), (-1, 1), (GREAT, 1 - GREAT)):
            self.refused(many, more)

    def test_other_kinds(self):
        for value in no_whole_numbers() + [SulkyInt(1), LikeAll(), Sulky()]:
            for other in (0, 1, 9, 10, 11, -1):
                self.refused(value, other)
                self.refused(other, value)
            self.refused(value, value)

    def test_true_and_false_are_no_numbers(self):
        for many, more in ((True, 1), (1, True), (True, True), (False, 1), (1, False), (5, False), (True, False)):
            self.refused(many, more)


class Sorting(MadeCase):
    def test_each_number_of_lines(self):
        for lines in range(1, 11):
            comparers = sorting(lines)
            self.is_made_web(lines, comparers)
            self.assertIsNone(unsorted(lines, comparers))
            for row in all_rows(lines):
                self.assertEqual(out_of(comparers, row), sorted(row))

    def test_rows_of_unlike_numbers(self):
        for lines in range(1, 7):
            for row in itertools.permutations(range(lines)):
                self.assertEqual(out_of(sorting(lines), list(row)), list(range(lines)))

    def test_rows_of_great_and_of_like_numbers(self):
        for row in ([GREAT, -GREAT, 0, GREAT - 1], [3, 1, 3, 1, 2, 2, 3], [7] * 10, list(range(10, 0, -1)), [-GREAT]):
            self.assertEqual(out_of(sorting(len(row)), row), sorted(row))

    def test_one_line(self):
        self.assertEqual(sorting(1), [])

    def test_the_same_ones_each_time(self):
        for lines in range(1, 11):
            self.made_anew(lambda: sorting(lines))

    def test_refused_out_of_bounds(self):
        for lines in (0, -1, -10, 11, 12, GREAT, -GREAT, 10 ** 5000):
            with self.assertRaises(BadLines):
                sorting(lines)

    def test_refused_other_kinds(self):
        for lines in no_whole_numbers() + [True, False, SulkyInt(4), Sulky(), LikeAll()]:
            with self.assertRaises(BadLines):
                sorting(lines)


class Beside(unittest.TestCase):
    def test_the_second_ones_lines_behind(self):
        self.assertEqual(beside(2, [(0, 1)], 2, [(0, 1)]), [(0, 1), (2, 3)])
        self.assertEqual(beside(3, [(0, 2), (0, 1)], 4, [(3, 1), (0, 2)]), [(0, 2), (0, 1), (6, 4), (3, 5)])

    def test_turned_comparers_stay_turned(self):
        self.assertEqual(beside(2, [(1, 0)], 3, [(2, 0), (0, 1)]), [(1, 0), (4, 2), (2, 3)])

    def test_a_line_without_comparers_of_its_own(self):
        self.assertEqual(beside(1, [], 2, [(1, 0)]), [(2, 1)])
        self.assertEqual(beside(2, [(1, 0)], 1, []), [(1, 0)])

    def test_without_comparers(self):
        for lines in range(1, 10):
            for more in range(1, 11 - lines):
                self.assertEqual(beside(lines, [], more, []), [])

    def test_up_to_ten_lines(self):
        self.assertEqual(beside(9, [(8, 0)], 1, []), [(8, 0)])
        self.assertEqual(beside(1, [], 9, [(8, 0)]), [(9, 1)])
        self.assertEqual(beside(5, [(0, 4), (4, 3)], 5, [(0, 4), (4, 3)]), [(0, 4), (4, 3), (5, 9), (9, 8)])

    def test_up_to_sixty_comparers(self):
        self.assertEqual(beside(2, [(0, 1)] * 60, 2, []), [(0, 1)] * 60)
        self.assertEqual(beside(2, [], 2, [(0, 1)] * 60), [(2, 3)] * 60)
        self.assertEqual(beside(5, [(0, 1)] * 29, 5, [(1, 0)] * 31), [(0, 1)] * 29 + [(6, 5)] * 31)

    def test_what_comes_out_of_each_comes_out_beside_the_other(self):
        small = small_webs()
        for (lines, comparers), (more, others) in zip(small, small[7:] + small[:7]):
            both = beside(lines, comparers, more, others)
            self.assertIsNone(need_web(lines + more, both))
            for row in all_rows(lines):
                for other in all_rows(more):
                    self.assertEqual(out_of(both, row + other), out_of(comparers, row) + out_of(others, other))

    def test_a_web_beside_itself(self):
        comparers = [(0, 1), (2, 1)]
        self.assertEqual(beside(3, comparers, 3, comparers), [(0, 1), (2, 1), (3, 4), (5, 4)])
        self.assertEqual(comparers, [(0, 1), (2, 1)])

    def test_the_told_list_is_the_askers_own(self):
        for comparers, others in (([(0, 1)], []), ([], [(1, 0)]), ([(0, 1)], [(1, 0)]), ([], [])):
            held, held_too = list(comparers), list(others)
            told = beside(2, comparers, 3, others)
            meant = list(told)
            self.assertIs(type(told), list)
            told.append((3, 4))
            told.reverse()
            self.assertEqual((comparers, others), (held, held_too))
            self.assertEqual(beside(2, comparers, 3, others), meant)
            told = beside(2, comparers, 3, others)
            comparers.append((1, 0))
            others.append((0, 1))
            self.assertEqual(told, meant)


class BesideRefused(unittest.TestCase):
    def lines_refused(self, *told):
        with self.assertRaises(BadLines):
            beside(*told)

    def web_refused_at(self, place, *told):
        with self.assertRaises(BadWeb) as caught:
            beside(*told)
        self.assertEqual((caught.exception.place, type(caught.exception.place)), (place, type(place)))

    def test_more_than_ten_lines_together(self):
        for lines in range(1, 11):
            for more in range(11 - lines, 11):
                self.lines_refused(lines, [], more, [])

    def test_more_than_sixty_comparers_together(self):
        for many in range(1, 61):
            self.web_refused_at(None, 2, [(0, 1)] * many, 2, [(1, 0)] * (61 - many))
        self.web_refused_at(None, 5, [(0, 1)] * 60, 5, [(1, 0)] * 60)

    def test_lines_together_ahead_of_comparers_together(self):
        self.lines_refused(5, [(0, 1)] * 60, 6, [(0, 1)])
        self.lines_refused(10, [(0, 1)] * 60, 10, [(0, 1)] * 60)

    def test_the_first_one_ahead_of_all(self):
        for more, others in ((0, []), (None, None), (10, [(0, 1)] * 60), (2, [(0, 2)]), (Sulky(), Sulky())):
            self.lines_refused(0, [(0, 1)], more, others)
            self.lines_refused(True, [], more, others)
            self.web_refused_at(None, 10, ((0, 1),), more, others)
            self.web_refused_at(None, 10, [(0, 1)] * 61, more, others)
            self.web_refused_at(1, 10, [(0, 1), (0, 10), (0, 10)], more, others)

    def test_the_second_one_ahead_of_both_together(self):
        for lines, comparers in ((2, []), (10, []), (10, [(0, 1)] * 60), (2, [(0, 1)] * 60)):
            self.lines_refused(lines, comparers, 0, [(0, 1)])
            self.lines_refused(lines, comparers, 11, Sulky())
            self.lines_refused(lines, comparers, True, [])
            self.web_refused_at(None, lines, comparers, 10, None)
            self.web_refused_at(None, lines, comparers, 10, [(0, 1)] * 61)
            self.web_refused_at(1, lines, comparers, 10, [(0, 1), (3, 3), (4, 4)])
            self.web_refused_at(2, lines, comparers, 9, [(0, 1), (3, 2), (0, 9)])

    def test_comparers_of_the_lines_of_both_are_none_of_one(self):
        self.web_refused_at(0, 2, [(0, 2)], 2, [])
        self.web_refused_at(0, 2, [], 2, [(0, 2)])

    def test_what_is_refused_stays_as_it_was(self):
        comparers, others = [(0, 1)] * 60, [(1, 0)]
        self.web_refused_at(None, 2, comparers, 2, others)
        self.lines_refused(5, comparers, 6, others)
        self.assertEqual((comparers, others), ([(0, 1)] * 60, [(1, 0)]))


class WebsRefused(RefusesNoWebs, unittest.TestCase):
    ASKS = [
        lambda lines, comparers: beside(lines, comparers, 2, [(0, 1)]),
        lambda lines, comparers: beside(lines, comparers, 10, [(0, 1)] * 60),
        lambda lines, comparers: beside(lines, comparers, 0, None),
        lambda lines, comparers: beside(lines, comparers, Sulky(), Sulky()),
        lambda lines, comparers: beside(2, [(0, 1)], lines, comparers),
        lambda lines, comparers: beside(1, [], lines, comparers),
        lambda lines, comparers: beside(10, [(0, 1)] * 60, lines, comparers),
        lambda lines, comparers: beside(lines, comparers, lines, comparers),
    ]


class Places(unittest.TestCase):
    def test_each_is_defined_in_making(self):
        for function in (merging, sorting, beside):
            self.assertEqual(function.__module__, "sortweb.making")

    def test_arguments_by_their_names(self):
        self.assertEqual(out_of(merging(many=1, more=2), [5, 1, 8]), [1, 5, 8])
        self.assertEqual(merging(more=0, many=1), [])
        self.assertEqual(len(bubbling(2)), len(sorting(lines=2)))
        self.assertEqual(beside(lines=2, comparers=[(1, 0)], more=3, others=[(0, 2)]), [(1, 0), (2, 4)])


if __name__ == "__main__":
    unittest.main()
