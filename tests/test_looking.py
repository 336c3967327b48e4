"""sortweb.looking: whether a web sorts, which comparers are needless, whether two webs do the same."""

import unittest

from oddities import LikeAll, Sulky, SulkyInt, no_whole_numbers
from plain import all_comparers, all_rows, bubbling, great_webs, out_of, small_webs, stirred, webs
from refusals import RefusesNoWebs
from sortweb.errors import BadPlace, BadWeb
from sortweb.looking import differing, needless, pruned, stirring, unsorted

# Four lines in five comparers, and then ones that exchange nothing any more.
SORTS = [(0, 1), (2, 3), (0, 2), (1, 3), (1, 2)]
IDLE = SORTS + [(0, 3), (0, 1), (2, 3)]


def small_pairs():
    """Each two webs of 3 lines and up to 2 comparers, and some greater ones beside each other."""
    small = [comparers for lines, comparers in small_webs() if lines == 3 and len(comparers) < 3]
    pairs = [(3, one, other) for one in small for other in small]
    for (lines, one), (lines_too, other) in zip(great_webs(), great_webs()[1:]):
        if lines == lines_too:
            pairs.append((lines, one, other))
    return pairs


class RowCase(unittest.TestCase):
    def is_row_of_noughts_and_ones(self, lines, row):
        self.assertIs(type(row), list)
        self.assertEqual(len(row), lines)
        for number in row:
            self.assertIs(type(number), int)
            self.assertIn(number, (0, 1))

    def same_again(self, row, ask):
        """That ask tells the row anew, whatever has been done to the one that was told."""
        if row is not None:
            before = list(row)
            row[0] = 7
            row.append(8)
            self.assertIsNot(ask(), row)
            row = before
        self.assertEqual(ask(), row)
        self.assertEqual(ask(), row)


class Unsorted(RowCase):
    def checked(self, lines, comparers):
        row = unsorted(lines, comparers)
        sorts = all(out_of(comparers, each) == sorted(each) for each in all_rows(lines))
        self.assertEqual(row is None, sorts)
        if row is not None:
            self.is_row_of_noughts_and_ones(lines, row)
            self.assertNotEqual(out_of(comparers, row), sorted(row))
        self.same_again(row, lambda: unsorted(lines, comparers))

    def test_webs_that_sort(self):
        self.assertIsNone(unsorted(1, []))
        self.assertIsNone(unsorted(2, [(0, 1)]))
        self.assertIsNone(unsorted(4, SORTS))
        self.assertIsNone(unsorted(4, IDLE))
        self.assertIsNone(unsorted(2, [(1, 0), (0, 1)]))
        for lines in range(1, 11):
            self.assertIsNone(unsorted(lines, bubbling(lines)))

    def test_webs_without_comparers(self):
        for lines in range(2, 11):
            self.checked(lines, [])
            self.assertIsNotNone(unsorted(lines, []))

    def test_webs_that_do_not_sort(self):
        self.assertEqual(unsorted(2, []), [1, 0])
        self.assertIn(unsorted(2, [(0, 1), (1, 0)]), ([0, 1], [1, 0]))
        for lines in range(2, 11):
            for left_out in range(len(bubbling(lines))):
                self.checked(lines, bubbling(lines)[:left_out] + bubbling(lines)[left_out + 1:])

    def test_webs_that_fail_at_one_row_alone(self):
        self.assertEqual(unsorted(3, [(0, 1), (1, 2)]), [1, 1, 0])
        self.assertEqual(unsorted(3, [(1, 2), (0, 1)]), [1, 0, 0])
        for lines in range(2, 11):
            left_out = 0
            for ones in range(1, lines):
                # Each round of bubbling begins at line 0, and without its beginning just this row is not put in order.
                row = [1] * ones + [0] * (lines - ones)
                self.assertEqual(unsorted(lines, bubbling(lines)[:left_out] + bubbling(lines)[left_out + 1:]), row)
                left_out += lines - ones

    def test_webs_that_undo_it_at_last(self):
        for lines in range(2, 11):
            self.checked(lines, bubbling(lines) + [(1, 0)])
            self.checked(lines, bubbling(lines) + [(lines - 1, lines - 2)])
            self.checked(lines, bubbling(lines) + [(lines - 1, 0)])

    def test_many_webs(self):
        for lines, comparers in webs():
            self.checked(lines, comparers)


class Stirring(RowCase):
    def checked(self, lines, comparers):
        moved = {place for row in all_rows(lines) for place in stirred(comparers, row)}
        for place in range(len(comparers)):
            row = stirring(lines, comparers, place)
            self.assertEqual(row is not None, place in moved)
            if row is not None:
                self.is_row_of_noughts_and_ones(lines, row)
                self.assertIn(place, stirred(comparers, row))
            self.same_again(row, lambda: stirring(lines, comparers, place))

    def test_the_only_comparer(self):
        self.assertEqual(stirring(2, [(0, 1)], 0), [1, 0])
        self.assertEqual(stirring(2, [(1, 0)], 0), [0, 1])

    def test_a_needless_comparer(self):
        self.assertIsNone(stirring(2, [(0, 1), (0, 1)], 1))
        self.assertIsNone(stirring(4, IDLE, 5))
        self.assertIsNone(stirring(4, IDLE, 6))
        self.assertIsNone(stirring(4, IDLE, 7))

    def test_a_turned_comparer_behind_a_straight_one(self):
        # What comes to it is in order: only where the numbers are unlike it exchanges them.
        row = stirring(2, [(0, 1), (1, 0)], 1)
        self.assertIn(row, ([0, 1], [1, 0]))

    def test_the_row_goes_in_at_the_beginning(self):
        self.assertEqual(stirring(3, [(0, 1), (1, 2), (0, 1)], 2)[2], 0)
        for place in range(5):
            self.assertIn(place, stirred(SORTS, stirring(4, SORTS, place)))

    def test_what_stands_behind_is_no_matter(self):
        for place in range(5):
            row = stirring(4, SORTS, place)
            self.assertEqual(stirring(4, IDLE, place) is None, row is None)
            self.assertIn(place, stirred(SORTS, stirring(4, SORTS[:place + 1], place)))

    def test_many_webs(self):
        for lines, comparers in webs():
            self.checked(lines, comparers)


class StirringRefused(unittest.TestCase):
    def refused(self, comparers, place):
        with self.assertRaises(BadPlace):
            stirring(4, comparers, place)

    def test_places_that_are_not_there(self):
        for comparers in ([], [(0, 1)], SORTS, IDLE, [(0, 1)] * 60):
            for place in (-1, len(comparers), len(comparers) + 1, -len(comparers) - 1, 10 ** 60, -10 ** 60, 10 ** 5000):
                self.refused(comparers, place)

    def test_no_places_from_the_end(self):
        for place in range(-len(IDLE), 0):
            self.refused(IDLE, place)

    def test_true_and_false_are_no_places(self):
        for place in (True, False):
            self.refused(IDLE, place)
            self.refused([], place)

    def test_places_of_other_kinds(self):
        for place in no_whole_numbers() + [None, "0", [0], (0,), SulkyInt(0), LikeAll(), Sulky()]:
            self.refused(IDLE, place)
            self.refused([], place)

    def test_what_is_refused_stays_as_it_was(self):
        comparers, place = list(SORTS), [0]
        self.refused(comparers, place)
        self.assertEqual((comparers, place), (SORTS, [0]))


class Needless(unittest.TestCase):
    def test_none(self):
        for lines in range(1, 11):
            self.assertEqual(needless(lines, []), [])
            self.assertEqual(needless(lines, bubbling(lines)), [])
        self.assertEqual(needless(4, SORTS), [])
        self.assertEqual(needless(2, [(0, 1), (1, 0)] * 30), [])

    def test_some(self):
        self.assertEqual(needless(4, IDLE), [5, 6, 7])
        self.assertEqual(needless(2, [(0, 1), (0, 1), (1, 0), (1, 0), (0, 1)]), [1, 3])
        self.assertEqual(needless(2, [(0, 1)] * 60), list(range(1, 60)))
        self.assertEqual(needless(4, [(0, 1), (2, 3), (1, 0), (1, 0), (3, 2)]), [3])

    def test_needless_by_two_others(self):
        self.assertEqual(needless(3, [(0, 1), (1, 2), (0, 2)]), [2])
        self.assertEqual(needless(3, [(0, 2), (0, 1), (1, 2), (0, 1)]), [3])

    def test_each_behind_a_web_that_sorts(self):
        for lines in range(2, 9):
            ahead = bubbling(lines)
            for a, b in all_comparers(lines):
                self.assertEqual(needless(lines, ahead + [(a, b)]), [len(ahead)] if a < b else [])

    def test_many_webs(self):
        for lines, comparers in webs():
            moved = {place for row in all_rows(lines) for place in stirred(comparers, row)}
            idle = [place for place in range(len(comparers)) if place not in moved]
            told = needless(lines, comparers)
            self.assertEqual(told, idle)
            self.assertTrue(all(type(place) is int for place in told))
            self.assertEqual(idle, [
                place for place in range(len(comparers)) if stirring(lines, comparers, place) is None])


class Pruned(unittest.TestCase):
    def test_without_needless_ones(self):
        self.assertEqual(pruned(1, []), [])
        self.assertEqual(pruned(3, []), [])
        self.assertEqual(pruned(4, SORTS), SORTS)

    def test_with_needless_ones(self):
        self.assertEqual(pruned(4, IDLE), SORTS)
        self.assertEqual(pruned(2, [(0, 1)] * 60), [(0, 1)])
        self.assertEqual(pruned(2, [(0, 1), (0, 1), (1, 0), (1, 0), (0, 1)]), [(0, 1), (1, 0), (0, 1)])

    def test_like_comparers_at_needless_and_other_places(self):
        self.assertEqual(pruned(4, [(0, 1), (2, 3), (0, 1), (1, 0), (0, 1)]), [(0, 1), (2, 3), (1, 0), (0, 1)])

    def test_many_webs(self):
        for lines, comparers in webs():
            left = pruned(lines, comparers)
            dropped = needless(lines, comparers)
            self.assertEqual(left, [comparers[place] for place in range(len(comparers)) if place not in dropped])
            self.assertEqual(needless(lines, left), [])
            for row in all_rows(lines):
                self.assertEqual(out_of(left, row), out_of(comparers, row))
            self.assertIsNone(differing(lines, comparers, left))


class Differing(RowCase):
    def checked(self, lines, one, other):
        row = differing(lines, one, other)
        self.assertEqual(row is None, all(out_of(one, each) == out_of(other, each) for each in all_rows(lines)))
        if row is not None:
            self.is_row_of_noughts_and_ones(lines, row)
            self.assertNotEqual(out_of(one, row), out_of(other, row))
        self.same_again(row, lambda: differing(lines, one, other))

    def test_a_web_and_itself(self):
        for lines, comparers in webs():
            self.assertIsNone(differing(lines, comparers, comparers))
            self.assertIsNone(differing(lines, comparers, list(comparers)))

    def test_two_webs_that_sort(self):
        for lines in range(1, 11):
            self.assertIsNone(differing(lines, bubbling(lines), bubbling(lines) + bubbling(lines)[:15]))
        self.assertIsNone(differing(4, SORTS, bubbling(4)))
        self.assertIsNone(differing(4, bubbling(4), SORTS))

    def test_unlike_comparers_in_another_order(self):
        self.assertIsNone(differing(4, [(0, 1), (3, 2)], [(3, 2), (0, 1)]))
        self.assertIsNone(differing(2, [(0, 1), (1, 0)], [(1, 0)]))

    def test_webs_that_differ(self):
        self.assertEqual(differing(2, [(0, 1)], []), [1, 0])
        self.assertEqual(differing(2, [], [(0, 1)]), [1, 0])
        self.assertIn(differing(2, [(0, 1)], [(1, 0)]), ([0, 1], [1, 0]))
        self.assertIsNotNone(differing(3, [(0, 1), (1, 2)], [(1, 2), (0, 1)]))

    def test_pairs_both_ways_round(self):
        for lines, one, other in small_pairs():
            self.checked(lines, one, other)
            self.checked(lines, other, one)

    def test_webs_that_differ_on_each_line(self):
        for lines in range(2, 11):
            for a, b in all_comparers(lines):
                self.checked(lines, [(a, b)], [])
                self.checked(lines, bubbling(lines), bubbling(lines) + [(a, b)])


class DifferingRefused(unittest.TestCase):
    def refused_at(self, place, one, other):
        with self.assertRaises(BadWeb) as caught:
            differing(3, one, other)
        told = caught.exception.place
        self.assertEqual((told, type(told)), (place, type(place)))

    def test_one_ahead_of_other(self):
        self.refused_at(1, [(0, 1), (1, 1)], [(0, 0)])
        self.refused_at(2, [(0, 1), (1, 2), (1, 3)], None)
        self.refused_at(None, None, [(0, 0)])
        self.refused_at(None, [(0, 1)] * 61, [(0, 1), (0, True)])

    def test_other_behind_a_good_one(self):
        self.refused_at(0, [(0, 1), (1, 2)], [(0, 0)])
        self.refused_at(1, [(0, 1)], [(0, 1), (0, 3)])
        self.refused_at(None, [], ())
        self.refused_at(None, [], [(0, 1)] * 61)

    def test_two_webs_of_sixty_comparers_each(self):
        self.assertIsNone(differing(3, [(0, 1)] * 60, [(0, 1)] * 60))


class HandedInAndTold(unittest.TestCase):
    def test_what_is_handed_in_stays_as_it_was(self):
        for ask in (unsorted, needless, pruned, lambda lines, web: stirring(lines, web, 2),
                    lambda lines, web: differing(lines, web, SORTS), lambda lines, web: differing(lines, [], web)):
            comparers = list(IDLE)
            ask(4, comparers)
            self.assertEqual(comparers, IDLE)

    def test_told_lists_are_the_askers_own(self):
        for ask in (needless, pruned):
            for before in (IDLE, SORTS, []):
                comparers = list(before)
                told, meant = ask(4, comparers), ask(4, comparers)
                self.assertIs(type(told), list)
                told.append((3, 0))
                told.reverse()
                self.assertEqual(comparers, before)
                self.assertEqual(ask(4, comparers), meant)
                told = ask(4, comparers)
                comparers.clear()
                self.assertEqual(told, meant)


class WebsRefused(RefusesNoWebs, unittest.TestCase):
    ASKS = [
        unsorted, needless, pruned,
        lambda lines, comparers: stirring(lines, comparers, 0),
        lambda lines, comparers: stirring(lines, comparers, -1),
        lambda lines, comparers: stirring(lines, comparers, None),
        lambda lines, comparers: stirring(lines, comparers, Sulky()),
        lambda lines, comparers: differing(lines, comparers, []),
        lambda lines, comparers: differing(lines, comparers, Sulky()),
        lambda lines, comparers: differing(lines, comparers, comparers),
        lambda lines, comparers: differing(lines, [], comparers),
    ]


class Places(unittest.TestCase):
    def test_each_is_defined_in_looking(self):
        for function in (unsorted, stirring, needless, pruned, differing):
            self.assertEqual(function.__module__, "sortweb.looking")

    def test_arguments_by_their_names(self):
        self.assertIsNone(unsorted(lines=2, comparers=[(0, 1)]))
        self.assertIsNone(stirring(lines=2, comparers=[(0, 1), (0, 1)], place=1))
        self.assertEqual(needless(lines=2, comparers=[(0, 1), (0, 1)]), [1])
        self.assertEqual(pruned(lines=2, comparers=[(0, 1), (0, 1)]), [(0, 1)])
        self.assertIsNone(differing(lines=2, one=[(0, 1), (1, 0)], other=[(1, 0)]))


if __name__ == "__main__":
    unittest.main()
