"""sortweb.webs: what a web is and what a row is."""

import unittest

from oddities import LikeAll, Posing, Sulky, SulkyInt, no_lists, no_tuples, no_whole_numbers
from sortweb import webs
from sortweb.errors import BadLines, BadRow, BadWeb
from sortweb.webs import need_row, need_web


def all_comparers(lines):
    return [(a, b) for a in range(lines) for b in range(lines) if a != b]


class WebCase(unittest.TestCase):
    def refused_at(self, place, lines, comparers):
        with self.assertRaises(BadWeb) as caught:
            need_web(lines, comparers)
        self.assertEqual((place, type(place)), (caught.exception.place, type(caught.exception.place)))


class GoodWebs(unittest.TestCase):
    def test_no_comparers_on_each_number_of_lines(self):
        for lines in range(1, 11):
            self.assertIsNone(need_web(lines, []))

    def test_each_comparer_of_each_number_of_lines(self):
        for lines in range(2, 11):
            for comparer in all_comparers(lines):
                self.assertIsNone(need_web(lines, [comparer]))

    def test_turned_comparers(self):
        self.assertIsNone(need_web(4, [(3, 0), (0, 3), (2, 1)]))

    def test_the_same_comparer_again(self):
        self.assertIsNone(need_web(2, [(0, 1), (0, 1), (1, 0), (0, 1)]))

    def test_sixty_comparers(self):
        self.assertIsNone(need_web(10, all_comparers(10)[:60]))
        self.assertIsNone(need_web(2, [(1, 0)] * 60))

    def test_what_is_handed_in_stays_as_it_was(self):
        comparers = [(3, 0), (0, 1), (3, 0)]
        held = list(comparers)
        need_web(4, comparers)
        self.assertEqual(comparers, held)
        for comparer, before in zip(comparers, held):
            self.assertIs(comparer, before)


class BadLinesOfWebs(unittest.TestCase):
    def refused(self, lines, comparers):
        with self.assertRaises(BadLines):
            need_web(lines, comparers)

    def test_out_of_bounds(self):
        for lines in (0, 11, 12, -1, -2, -10, 100, 10 ** 30, -10 ** 30, 10 ** 5000):
            self.refused(lines, [])

    def test_other_kinds(self):
        for lines in no_whole_numbers():
            self.refused(lines, [])

    def test_true_is_not_one_line(self):
        self.refused(True, [])
        self.refused(False, [])

    def test_ahead_of_bad_webs(self):
        for lines in (0, 11, -1, True, None, "4", [4], 4.0):
            for comparers in (None, (), "", [None], [(0, 0)], [(0, 1)] * 61, [(0, 1), (5, 5)], Sulky()):
                self.refused(lines, comparers)

    def test_what_is_handed_in_stays_as_it_was(self):
        lines, comparers = [4], [(0, 0), None]
        self.refused(lines, comparers)
        self.assertEqual((lines, comparers), ([4], [(0, 0), None]))


class BadWebsAsAWhole(WebCase):
    def test_no_list(self):
        for comparers in no_lists():
            self.refused_at(None, 2, comparers)

    def test_more_than_sixty(self):
        self.refused_at(None, 2, [(0, 1)] * 61)
        self.refused_at(None, 2, [(0, 1)] * 1000)
        self.refused_at(None, 10, all_comparers(10))

    def test_more_than_sixty_ahead_of_one_that_is_none(self):
        self.refused_at(None, 2, [None] * 61)
        self.refused_at(None, 2, [(0, 0)] + [(0, 1)] * 60)


class BadWebsAtAPlace(WebCase):
    def none_of(self, lines, comparer):
        """That comparer is refused wherever it stands."""
        self.refused_at(0, lines, [comparer])
        self.refused_at(0, lines, [comparer, (0, 1)])
        self.refused_at(2, lines, [(0, 1), (1, 0), comparer])
        self.refused_at(1, lines, [(0, 1), comparer, (1, 0)])
        self.refused_at(59, lines, [(0, 1)] * 59 + [comparer])

    def test_no_tuple(self):
        for comparer in no_tuples():
            self.none_of(2, comparer)

    def test_not_of_two(self):
        for comparer in ((), (0,), (1,), (0, 1, 2), (0, 1, 0), (0, 1, None), ((0, 1),), (0, 1) * 30):
            self.none_of(3, comparer)

    def test_like_lines(self):
        for line in range(10):
            self.none_of(10, (line, line))

    def test_lines_that_are_not_there(self):
        for lines in range(2, 11):
            for line in (lines, lines + 1, -1, -lines, 10 ** 30):
                self.none_of(lines, (0, line))
                self.none_of(lines, (line, 0))

    def test_no_comparer_on_one_line(self):
        for comparer in ((0, 1), (1, 0), (0, 0), (-1, 0), (0, -1)):
            self.refused_at(0, 1, [comparer])

    def test_true_and_false_are_no_lines(self):
        for comparer in ((0, True), (True, 0), (False, 1), (1, False), (False, True), (True, False)):
            self.none_of(2, comparer)

    def test_lines_of_other_kinds(self):
        for line in no_whole_numbers():
            self.none_of(3, (0, line))
            self.none_of(3, (line, 0))
            self.none_of(3, (line, line))

    def test_the_first_one_of_several(self):
        self.refused_at(1, 3, [(0, 1), (1, 1), (2, 2)])
        self.refused_at(1, 3, [(0, 1), (1, 3), [0, 1], (2, 2)])
        self.refused_at(0, 3, [None] * 60)
        self.refused_at(2, 3, [(0, 1), (1, 0), (0, True), (0, 1), (0, False)])

    def test_what_is_handed_in_stays_as_it_was(self):
        bad = [0, 1]
        comparers = [(0, 1), bad, (1, 1)]
        self.refused_at(1, 2, comparers)
        self.assertEqual(comparers, [(0, 1), [0, 1], (1, 1)])
        self.assertIs(comparers[1], bad)

    def test_a_list_within_itself(self):
        comparers = [(0, 1)]
        comparers.append(comparers)
        self.refused_at(1, 2, comparers)


class Rows(unittest.TestCase):
    def refused(self, lines, row):
        with self.assertRaises(BadRow):
            need_row(lines, row)

    def test_good_rows(self):
        for lines in range(1, 11):
            self.assertIsNone(need_row(lines, list(range(lines))))
            self.assertIsNone(need_row(lines, [-7] * lines))

    def test_great_numbers(self):
        self.assertIsNone(need_row(3, [10 ** 60, 0, -10 ** 60]))
        self.assertIsNone(need_row(1, [10 ** 60]))
        self.assertIsNone(need_row(1, [-10 ** 60]))

    def test_too_short_or_too_long(self):
        for lines in range(1, 11):
            for many in range(13):
                if many != lines:
                    self.refused(lines, [0] * many)

    def test_no_list(self):
        for row in no_lists():
            self.refused(1, row)
            self.refused(2, row)
        self.refused(2, (0, 1))

    def test_what_is_no_whole_number_in_it(self):
        for number in no_whole_numbers():
            self.refused(1, [number])
            self.refused(3, [number, 1, 2])
            self.refused(3, [0, number, 2])
            self.refused(3, [0, 1, number])

    def test_true_and_false_are_no_numbers(self):
        self.refused(2, [True, False])
        self.refused(2, [0, True])
        self.refused(2, [False, 1])

    def test_lines_of_any_kind(self):
        for lines in no_whole_numbers():
            for row in ([0], [0, 1], [0, 1, 2], [None], None, (0, 1), Sulky()):
                self.refused(lines, row)

    def test_lines_without_a_row_of_theirs(self):
        for lines in (0, -1, -2, 11, 10 ** 30):
            for row in ([0, 1], [None], None, LikeAll(), Posing(list)):
                self.refused(lines, row)

    def test_true_is_not_one_line(self):
        self.refused(True, [0])
        self.refused(SulkyInt(1), [0])

    def test_lines_beyond_those_of_a_web_are_taken_as_they_are(self):
        self.assertIsNone(need_row(11, list(range(11))))
        self.assertIsNone(need_row(0, []))
        self.refused(11, [0] * 10)

    def test_what_is_handed_in_stays_as_it_was(self):
        row, bad = [3, 1, 2], [3, None, 2, 1]
        need_row(3, row)
        self.refused(3, bad)
        self.assertEqual((row, bad), ([3, 1, 2], [3, None, 2, 1]))

    def test_a_row_within_itself(self):
        row = [0]
        row.append(row)
        self.refused(2, row)


class Places(unittest.TestCase):
    def test_each_is_defined_in_webs(self):
        for function in (need_web, need_row):
            self.assertEqual(function.__module__, "sortweb.webs")
            self.assertIs(getattr(webs, function.__name__), function)

    def test_arguments_by_their_names(self):
        self.assertIsNone(need_web(lines=2, comparers=[(0, 1)]))
        self.assertIsNone(need_row(lines=2, row=[0, 1]))


if __name__ == "__main__":
    unittest.main()
