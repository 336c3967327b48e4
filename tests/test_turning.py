"""sortweb.turning: lines called otherwise, webs upside down, and straight webs."""

import itertools
import unittest

from oddities import LikeAll, Posing, Sulky, SulkyInt, no_lists, no_whole_numbers
from plain import all_comparers, all_rows, bubbling, out_of, webs
from refusals import RefusesNoWebs
from sortweb.errors import BadOrder
from sortweb.looking import unsorted
from sortweb.turning import renamed, straightened, upside
from sortweb.webs import need_web

GREAT = 10 ** 60


def some_rows(lines):
    rising = list(range(lines))
    return [
        rising, rising[::-1], [7] * lines, [k * 7 % 10 for k in rising], [k * 3 % 10 - 4 for k in rising],
        [(k % 3 - 1) * GREAT + k for k in rising], [k * k % 5 for k in rising], [-k * 7 % 10 for k in rising],
    ]


def few_orders(lines):
    """Some orders, such that turn back and such that don't among them."""
    rising = list(range(lines))
    return [rising, rising[::-1], rising[1:] + rising[:1], rising[2:] + rising[:2], rising[1::2] + rising[::2]]


def called(row, order):
    """The row with what is on line k on line order[k]."""
    told = [None] * len(row)
    for line, number in enumerate(row):
        told[order[line]] = number
    return told


def turned(row):
    return [-number for number in reversed(row)]


class WebCase(unittest.TestCase):
    def is_web(self, lines, comparers, many):
        self.assertIsNone(need_web(lines, comparers))
        self.assertEqual(len(comparers), many)

    def asked_anew(self, ask, web):
        """That ask leaves the web as it was, tells its own list, and tells the same again."""
        comparers = list(web)
        told, meant = ask(comparers), ask(comparers)
        self.assertEqual(comparers, web)
        self.assertIs(type(told), list)
        told.append((3, 0))
        told.reverse()
        self.assertEqual(comparers, web)
        self.assertEqual(ask(comparers), meant)
        told = ask(comparers)
        comparers.clear()
        self.assertEqual(told, meant)


class Renamed(WebCase):
    def test_line_k_is_called_order_k(self):
        self.assertEqual(renamed(3, [(0, 1), (2, 1), (2, 0)], [1, 2, 0]), [(1, 2), (0, 2), (0, 1)])
        self.assertEqual(renamed(4, [(0, 1), (3, 2)], [3, 2, 1, 0]), [(3, 2), (0, 1)])
        self.assertEqual(renamed(2, [(0, 1)], [1, 0]), [(1, 0)])

    def test_as_they_are_called(self):
        for lines, comparers in webs():
            self.assertEqual(renamed(lines, comparers, list(range(lines))), comparers)

    def test_without_comparers(self):
        for lines in range(1, 11):
            for order in few_orders(lines):
                self.assertEqual(renamed(lines, [], order), [])

    def test_one_line(self):
        self.assertEqual(renamed(1, [], [0]), [])

    def test_each_order_of_four_lines(self):
        comparers = all_comparers(4)
        for order in itertools.permutations(range(4)):
            told = renamed(4, comparers, list(order))
            self.assertEqual(told, [(order[a], order[b]) for a, b in comparers])

    def test_what_goes_in_so_called_comes_out_so_called(self):
        for lines, comparers in webs():
            for order in few_orders(lines):
                told = renamed(lines, comparers, order)
                self.is_web(lines, told, len(comparers))
                for row in some_rows(lines):
                    self.assertEqual(out_of(told, called(row, order)), called(out_of(comparers, row), order))

    def test_the_told_list_is_the_askers_own(self):
        for web in ([], [(0, 1)], [(0, 1), (3, 2), (2, 0)]):
            for order in ([0, 1, 2, 3], [2, 0, 3, 1]):
                self.asked_anew(lambda comparers: renamed(4, comparers, order), web)

    def test_the_order_stays_as_it_was(self):
        order, web = [2, 0, 3, 1], [(0, 1), (3, 2)]
        told = renamed(4, web, order)
        self.assertEqual(order, [2, 0, 3, 1])
        order.reverse()
        self.assertEqual(told, [(2, 0), (1, 3)])
        self.assertEqual(renamed(4, web, order), [(1, 3), (2, 0)])


class RenamedRefused(unittest.TestCase):
    def refused(self, lines, order):
        for comparers in ([], [(0, 1)] if lines > 1 else []):
            with self.assertRaises(BadOrder):
                renamed(lines, comparers, order)

    def test_too_short_or_too_long(self):
        for lines in range(1, 11):
            for many in range(13):
                if many != lines:
                    self.refused(lines, list(range(many)))
        self.refused(2, [0, 1, 0])
        self.refused(2, [0, 1, 1])

    def test_a_line_twice(self):
        for lines in range(2, 11):
            for line in range(lines - 1):
                order = list(range(lines))
                order[line] = line + 1
                self.refused(lines, order)
                order[line], order[line + 1] = line, line
                self.refused(lines, order)
        self.refused(4, [0, 0, 3, 3])

    def test_lines_that_are_not_there(self):
        for lines in range(1, 11):
            for line in (lines, lines + 1, -1, -lines, 10 ** 60, -10 ** 60, 10 ** 5000):
                self.refused(lines, list(range(lines - 1)) + [line])
                self.refused(lines, [line] + list(range(1, lines)))
        self.refused(3, [1, 2, 3])

    def test_no_lines_from_the_end(self):
        self.refused(3, [-3, -2, -1])
        self.refused(3, [0, 1, -1])
        self.refused(1, [-1])

    def test_no_list(self):
        for order in no_lists():
            self.refused(1, order)
            self.refused(2, order)
        self.refused(2, (0, 1))
        self.refused(2, {0: 1, 1: 0})
        self.refused(2, range(2))

    def test_lines_of_other_kinds(self):
        for line in no_whole_numbers() + [LikeAll(), Sulky(), SulkyInt(0), Posing(int)]:
            self.refused(1, [line])
            for place in range(3):
                order = [0, 1, 2]
                order[place] = line
                self.refused(3, order)

    def test_true_and_false_are_no_lines(self):
        self.refused(2, [False, True])
        self.refused(2, [0, True])
        self.refused(2, [True, 0])
        self.refused(1, [False])

    def test_an_order_within_itself(self):
        order = [0]
        order.append(order)
        self.refused(2, order)

    def test_what_is_refused_stays_as_it_was(self):
        order, comparers = [2, 1, 0, 2], [(0, 1), (3, 2)]
        with self.assertRaises(BadOrder):
            renamed(4, comparers, order)
        self.assertEqual((order, comparers), ([2, 1, 0, 2], [(0, 1), (3, 2)]))


class Upside(WebCase):
    def test_the_greater_goes_where_the_lesser_went(self):
        self.assertEqual(upside(4, [(0, 1), (3, 1)]), [(2, 3), (2, 0)])
        self.assertEqual(upside(3, [(0, 1), (0, 2), (2, 1)]), [(1, 2), (0, 2), (1, 0)])
        self.assertEqual(upside(10, [(0, 9), (9, 0), (3, 4)]), [(0, 9), (9, 0), (5, 6)])

    def test_two_lines(self):
        self.assertEqual(upside(2, [(0, 1), (1, 0)]), [(0, 1), (1, 0)])

    def test_without_comparers(self):
        for lines in range(1, 11):
            self.assertEqual(upside(lines, []), [])

    def test_straight_ones_stay_straight(self):
        for lines in range(2, 11):
            for a, b in all_comparers(lines):
                [(one, other)] = upside(lines, [(a, b)])
                self.assertEqual(one < other, a < b)

    def test_rows_turned_end_to_end_with_turned_signs(self):
        for lines, comparers in webs():
            told = upside(lines, comparers)
            self.is_web(lines, told, len(comparers))
            for row in some_rows(lines):
                self.assertEqual(out_of(told, turned(row)), turned(out_of(comparers, row)))

    def test_twice_is_the_web_itself(self):
        for lines, comparers in webs():
            self.assertEqual(upside(lines, upside(lines, comparers)), comparers)

    def test_of_a_web_that_sorts_it_sorts(self):
        for lines in range(1, 11):
            self.assertIsNone(unsorted(lines, upside(lines, bubbling(lines))))

    def test_the_told_list_is_the_askers_own(self):
        for web in ([], [(0, 3)], [(0, 1), (3, 2), (2, 0)]):
            self.asked_anew(lambda comparers: upside(4, comparers), web)


class Straightened(WebCase):
    def checked(self, lines, comparers, rows):
        told = straightened(lines, comparers)
        self.assertIs(type(told), tuple)
        straight, spots = told
        self.is_web(lines, straight, len(comparers))
        for a, b in straight:
            self.assertLess(a, b)
        self.assertEqual((type(spots), [type(spot) for spot in spots]), (list, [int] * lines))
        self.assertEqual(sorted(spots), list(range(lines)))
        for row in rows:
            out, out_straight = out_of(comparers, row), out_of(straight, row)
            self.assertEqual(out, [out_straight[spot] for spot in spots])
        return straight, spots

    def test_one_comparer(self):
        self.assertEqual(straightened(2, [(0, 1)]), ([(0, 1)], [0, 1]))
        self.assertEqual(straightened(2, [(1, 0)]), ([(0, 1)], [1, 0]))

    def test_straight_ones_stay_as_they_are(self):
        for lines in range(2, 11):
            for web in (bubbling(lines), bubbling(lines)[1:], bubbling(lines)[::2], bubbling(lines)[:1] * 60):
                self.assertEqual(straightened(lines, web), (web, list(range(lines))))

    def test_without_comparers(self):
        for lines in range(1, 11):
            self.assertEqual(straightened(lines, []), ([], list(range(lines))))

    def test_spots_of_webs_that_do_not_sort(self):
        self.assertEqual(straightened(3, [(1, 0), (1, 2)])[1], [1, 0, 2])
        self.assertEqual(straightened(3, [(2, 0)])[1], [2, 1, 0])
        self.assertEqual(straightened(3, [(1, 0), (2, 1)])[1], [1, 2, 0])
        for lines in range(2, 11):
            for a, b in all_comparers(lines):
                spots = list(range(lines))
                if a > b:
                    spots[a], spots[b] = b, a
                self.assertEqual(self.checked(lines, [(a, b)], some_rows(lines))[1], spots)

    def test_a_comparer_behind_one_that_is_turned(self):
        self.checked(3, [(1, 0), (0, 2)], all_rows(3))
        self.checked(3, [(2, 0), (0, 1), (1, 2)], all_rows(3) + [list(row) for row in itertools.permutations(range(3))])

    def test_rows_of_numbers_alike_and_unlike(self):
        for lines, comparers in webs():
            self.checked(lines, comparers, some_rows(lines))

    def test_all_rows_of_a_few_lines(self):
        for lines, comparers in webs():
            if lines < 5:
                self.checked(lines, comparers, [list(row) for row in itertools.product(range(lines), repeat=lines)])

    def test_webs_that_sort(self):
        for lines in range(1, 11):
            for turned_ones in ([], [(1, 0)], [(lines - 1, 0)], [(1, 0), (lines - 1, 0), (lines - 1, lines - 2)]):
                ahead = [(a, b) for a, b in turned_ones if 0 <= a < lines and a > b >= 0]
                straight, spots = self.checked(lines, ahead + bubbling(lines), some_rows(lines))
                self.assertEqual(spots, list(range(lines)))
                self.assertIsNone(unsorted(lines, straight))

    def test_all_small_webs_that_sort(self):
        sorting = 0
        for lines, comparers in webs():
            if unsorted(lines, comparers) is None:
                sorting += 1
                straight, spots = straightened(lines, comparers)
                self.assertEqual(spots, list(range(lines)))
                self.assertIsNone(unsorted(lines, straight))
        self.assertGreater(sorting, 10)

    def test_sixty_turned_comparers(self):
        for lines in range(2, 11):
            self.checked(lines, ([(b, a) for a, b in bubbling(lines)] * 60)[:60], some_rows(lines))

    def test_each_of_the_told_lists_is_the_askers_own(self):
        for web in ([], [(0, 1)], [(0, 1), (1, 2)], [(3, 0), (0, 1), (2, 1)]):
            comparers = list(web)
            meant = straightened(4, comparers)
            for place in range(2):
                told = straightened(4, comparers)
                self.assertEqual(told, meant)
                told[place].append(9)
                told[place].reverse()
                self.assertEqual(told[1 - place], meant[1 - place])
                self.assertEqual(comparers, web)
            self.assertEqual(straightened(4, comparers), meant)
            told = straightened(4, comparers)
            comparers.clear()
            self.assertEqual(told, meant)


class WebsRefused(RefusesNoWebs, unittest.TestCase):
    ASKS = [
        upside, straightened,
        lambda lines, comparers: renamed(lines, comparers, [0, 1]),
        lambda lines, comparers: renamed(lines, comparers, [0, 0]),
        lambda lines, comparers: renamed(lines, comparers, None),
        lambda lines, comparers: renamed(lines, comparers, Sulky()),
    ]


class Places(unittest.TestCase):
    def test_each_is_defined_in_turning(self):
        for function in (renamed, upside, straightened):
            self.assertEqual(function.__module__, "sortweb.turning")

    def test_arguments_by_their_names(self):
        self.assertEqual(renamed(lines=2, comparers=[(0, 1)], order=[1, 0]), [(1, 0)])
        self.assertEqual(upside(lines=3, comparers=[(0, 1)]), [(1, 2)])
        self.assertEqual(straightened(lines=2, comparers=[(1, 0)]), ([(0, 1)], [1, 0]))


if __name__ == "__main__":
    unittest.main()
