"""sortweb.bench: comparers put one by one, and the last one taken back."""

import unittest

from oddities import LikeAll, Posing, Sulky, SulkyInt, SulkyTuple, no_tuples, no_whole_numbers
from plain import all_comparers, all_rows, bubbling, stations, webs
from sortweb import bench as home
from sortweb.bench import Bench
from sortweb.errors import BadLines, BadWeb, NothingPut


def coming(lines, comparers):
    """The unlike rows that come to each comparer and, at last, those that come out, told row by row."""
    told = [set() for _ in range(len(comparers) + 1)]
    for row in all_rows(lines):
        for place, now in enumerate(stations(comparers, row)):
            told[place].add(tuple(now))
    return told


def bench_of(lines, comparers):
    bench = Bench(lines)
    for comparer in comparers:
        bench.put(comparer)
    return bench


class BenchCase(unittest.TestCase):
    def shows(self, bench, comparers, rows):
        """That the comparers are put, and just those rows come out."""
        self.assertEqual(bench.comparers(), comparers)
        self.assertEqual((bench.many(), type(bench.many())), (len(rows), int))
        wild = bench.wild()
        if wild is None:
            self.assertTrue(all(list(row) == sorted(row) for row in rows))
        else:
            self.assertEqual((type(wild), {type(number) for number in wild} - {int}), (list, set()))
            self.assertIn(tuple(wild), rows)
            self.assertNotEqual(wild, sorted(wild))

    def refused_none_at(self, bench, comparer):
        with self.assertRaises(BadWeb) as caught:
            bench.put(comparer)
        self.assertIsNone(caught.exception.place)


class Put(BenchCase):
    def test_true_where_a_row_is_exchanged(self):
        for comparer in ((0, 1), (1, 0)):
            self.assertIs(Bench(2).put(comparer), True)
        for lines in range(2, 11):
            for comparer in all_comparers(lines):
                self.assertIs(Bench(lines).put(comparer), True)

    def test_false_where_none_is(self):
        bench = Bench(4)
        told = [bench.put(comparer) for comparer in [(0, 1), (0, 1), (1, 0), (2, 3), (1, 0), (0, 1), (0, 1)]]
        self.assertEqual(told, [True, False, True, True, False, True, False])
        self.assertEqual([type(each) for each in told], [bool] * 7)

    def test_false_behind_a_web_that_sorts(self):
        for lines in range(2, 11):
            bench = bench_of(lines, bubbling(lines))
            for a, b in all_comparers(lines)[:15]:
                if a < b:
                    self.assertIs(bench.put((a, b)), False)

    def test_what_is_needless_is_put_too(self):
        bench = bench_of(2, [(0, 1), (0, 1)])
        self.assertEqual(bench.comparers(), [(0, 1), (0, 1)])

    def test_many_webs_one_by_one(self):
        for lines, comparers in webs():
            bench = Bench(lines)
            rows = coming(lines, comparers)
            self.shows(bench, [], rows[0])
            for place, comparer in enumerate(comparers):
                a, b = comparer
                moved = any(row[a] > row[b] for row in rows[place])
                self.assertIs(bench.put(comparer), moved)
                self.shows(bench, comparers[:place + 1], rows[place + 1])

    def test_sixty_comparers(self):
        for lines, comparer in ((2, (0, 1)), (2, (1, 0)), (10, (9, 3))):
            bench = Bench(lines)
            for _ in range(60):
                bench.put(comparer)
            self.assertEqual(bench.comparers(), [comparer] * 60)


class PutRefused(BenchCase):
    def test_a_sixty_first_one(self):
        comparers = [(0, 1), (2, 1), (1, 0)] * 20
        bench = bench_of(3, comparers)
        rows = coming(3, comparers)[-1]
        for comparer in ((0, 1), (2, 0), None, (0, 3), Sulky()):
            self.refused_none_at(bench, comparer)
            self.shows(bench, comparers, rows)
        self.assertEqual(bench.take_back(), (1, 0))
        self.assertEqual(len(bench.comparers()), 59)
        self.assertIs(bench.put((1, 0)), True)
        self.refused_none_at(bench, (1, 0))
        self.shows(bench, comparers, rows)

    def test_what_is_no_comparer(self):
        for ahead in ([], [(0, 1), (2, 0)]):
            bench = bench_of(3, ahead)
            rows = coming(3, ahead)[-1]
            for comparer in no_tuples() + [
                    (), (0,), (0, 1, 2), ((0, 1),), [0, 1], "01", SulkyTuple((0, 1)), Posing(tuple), LikeAll()]:
                self.refused_none_at(bench, comparer)
                self.shows(bench, ahead, rows)

    def test_lines_that_are_not_there(self):
        for lines in range(1, 11):
            bench = Bench(lines)
            for line in (lines, lines + 1, -1, -lines, 10 ** 60, -10 ** 60, 10 ** 5000):
                self.refused_none_at(bench, (0, line))
                self.refused_none_at(bench, (line, 0))
            self.assertEqual((bench.comparers(), bench.many()), ([], 2 ** lines))

    def test_like_lines(self):
        bench = Bench(10)
        for line in range(10):
            self.refused_none_at(bench, (line, line))

    def test_no_comparer_on_one_line(self):
        for comparer in ((0, 0), (0, 1), (1, 0), (0, -1)):
            self.refused_none_at(Bench(1), comparer)

    def test_lines_of_other_kinds(self):
        bench = Bench(3)
        for line in no_whole_numbers() + [SulkyInt(1)]:
            self.refused_none_at(bench, (0, line))
            self.refused_none_at(bench, (line, 0))
            self.refused_none_at(bench, (line, line))
        self.shows(bench, [], coming(3, [])[-1])

    def test_true_and_false_are_no_lines(self):
        bench = Bench(2)
        for comparer in ((0, True), (True, 0), (False, 1), (1, False), (False, True)):
            self.refused_none_at(bench, comparer)
        self.assertEqual(bench.comparers(), [])

    def test_what_is_refused_is_not_taken_back(self):
        bench = bench_of(3, [(0, 1)])
        self.refused_none_at(bench, (0, 3))
        self.assertEqual(bench.take_back(), (0, 1))
        with self.assertRaises(NothingPut):
            bench.take_back()


class TakeBack(BenchCase):
    def test_the_last_one(self):
        bench = bench_of(3, [(0, 1), (2, 1), (0, 2)])
        self.assertEqual([bench.take_back() for _ in range(3)], [(0, 2), (2, 1), (0, 1)])
        self.assertEqual(bench.comparers(), [])

    def test_like_comparers(self):
        bench = bench_of(2, [(0, 1), (0, 1)])
        self.assertEqual(bench.take_back(), (0, 1))
        self.shows(bench, [(0, 1)], coming(2, [(0, 1)])[-1])

    def test_needless_ones(self):
        bench = bench_of(2, [(0, 1)])
        self.assertIs(bench.put((0, 1)), False)
        self.assertEqual(bench.take_back(), (0, 1))
        self.assertIs(bench.put((1, 0)), True)
        self.assertEqual(bench.take_back(), (1, 0))
        self.assertIs(bench.put((0, 1)), False)

    def test_many_webs_one_by_one(self):
        for lines, comparers in webs():
            bench = bench_of(lines, comparers)
            rows = coming(lines, comparers)
            for place in reversed(range(len(comparers))):
                self.assertEqual(bench.take_back(), comparers[place])
                self.shows(bench, comparers[:place], rows[place])

    def test_others_put_instead(self):
        for lines, comparers in webs():
            bench = bench_of(lines, comparers)
            for _ in comparers[1::2]:
                bench.take_back()
            left = comparers[:len(comparers) - len(comparers[1::2])]
            now = left + [(b, a) for a, b in comparers[:3]]
            for comparer in now[len(left):]:
                if len(bench.comparers()) < 60:
                    bench.put(comparer)
            now = now[:60]
            self.shows(bench, now, coming(lines, now)[-1])

    def test_from_an_empty_bench(self):
        for lines in range(1, 11):
            bench = Bench(lines)
            for _ in range(3):
                with self.assertRaises(NothingPut):
                    bench.take_back()
            self.assertEqual((bench.comparers(), bench.many()), ([], 2 ** lines))

    def test_from_an_emptied_bench(self):
        bench = bench_of(3, [(0, 1), (2, 1)])
        bench.take_back()
        bench.take_back()
        for _ in range(2):
            with self.assertRaises(NothingPut):
                bench.take_back()
            self.shows(bench, [], coming(3, [])[-1])
        self.assertIs(bench.put((2, 0)), True)
        self.shows(bench, [(2, 0)], coming(3, [(2, 0)])[-1])


class Told(BenchCase):
    def test_an_empty_bench(self):
        for lines in range(1, 11):
            self.shows(Bench(lines), [], {tuple(row) for row in all_rows(lines)})
            self.assertEqual(Bench(lines).many(), 2 ** lines)

    def test_one_line(self):
        bench = Bench(1)
        self.assertEqual((bench.comparers(), bench.many(), bench.wild()), ([], 2, None))

    def test_of_a_web_that_sorts_a_row_for_each_number_of_ones(self):
        for lines in range(1, 11):
            bench = bench_of(lines, bubbling(lines))
            self.assertEqual((bench.many(), bench.wild()), (lines + 1, None))

    def test_the_only_wild_row(self):
        self.assertEqual(Bench(2).wild(), [1, 0])
        self.assertEqual(bench_of(2, [(1, 0)]).wild(), [1, 0])
        self.assertEqual(bench_of(3, [(0, 1), (1, 2)]).wild(), [1, 0, 1])
        self.assertEqual(bench_of(3, [(1, 2), (0, 1)]).wild(), [0, 1, 0])

    def test_the_wild_row_comes_out_and_need_not_go_in(self):
        # What goes in as [1, 1, 0] comes out as [1, 0, 1].
        self.assertEqual(stations([(0, 1), (1, 2)], [1, 1, 0])[-1], [1, 0, 1])
        self.assertEqual(bench_of(3, [(0, 1), (1, 2)]).many(), 5)

    def test_the_same_wild_row_each_time(self):
        for lines, comparers in webs():
            bench = bench_of(lines, comparers)
            wild = bench.wild()
            self.assertEqual(bench.wild(), wild)
            self.assertEqual(bench_of(lines, comparers).wild(), wild)
            if lines > 1 and len(comparers) < 60:
                bench.put((1, 0))
                bench.take_back()
                self.assertEqual(bench.wild(), wild)

    def test_told_lists_are_the_askers_own(self):
        for comparers in ([], [(0, 1)], [(0, 1), (2, 1), (1, 0)]):
            bench = bench_of(3, comparers)
            rows = coming(3, comparers)[-1]
            for tell in (bench.comparers, bench.wild):
                told = tell()
                meant = list(told)
                self.assertIs(type(told), list)
                told.append((2, 0))
                told.reverse()
                self.assertEqual(tell(), meant)
                del told[1:]
                self.shows(bench, comparers, rows)
                self.assertIsNot(tell(), tell())

    def test_what_is_done_later_does_not_change_what_was_told(self):
        bench = bench_of(3, [(0, 1)])
        comparers, wild = bench.comparers(), bench.wild()
        held = list(wild)
        bench.put((1, 2))
        bench.put((0, 1))
        self.assertEqual((comparers, wild), ([(0, 1)], held))
        bench.take_back()
        bench.take_back()
        bench.take_back()
        self.assertEqual((comparers, wild), ([(0, 1)], held))

    def test_asking_changes_nothing(self):
        bench = bench_of(3, [(0, 1), (2, 1)])
        rows = coming(3, [(0, 1), (2, 1)])[-1]
        for _ in range(3):
            self.shows(bench, [(0, 1), (2, 1)], rows)

    def test_comparers_that_are_told_are_tuples_of_lines(self):
        bench = bench_of(3, [(0, 1), (2, 1)])
        for comparer in bench.comparers() + [bench.take_back()]:
            self.assertEqual((type(comparer), [type(line) for line in comparer]), (tuple, [int, int]))


class TwoBenches(BenchCase):
    def test_they_do_not_touch_one_another(self):
        one, other, third = Bench(3), Bench(3), Bench(4)
        one.put((0, 1))
        one.put((2, 1))
        other.put((1, 0))
        with self.assertRaises(NothingPut):
            third.take_back()
        self.shows(one, [(0, 1), (2, 1)], coming(3, [(0, 1), (2, 1)])[-1])
        self.shows(other, [(1, 0)], coming(3, [(1, 0)])[-1])
        self.shows(third, [], coming(4, [])[-1])
        self.assertEqual(one.take_back(), (2, 1))
        self.shows(one, [(0, 1)], coming(3, [(0, 1)])[-1])
        self.shows(other, [(1, 0)], coming(3, [(1, 0)])[-1])

    def test_one_put_upon_by_what_the_other_tells(self):
        one = bench_of(3, [(0, 1), (2, 1)])
        other = bench_of(3, one.comparers())
        other.take_back()
        self.assertEqual((one.comparers(), other.comparers()), ([(0, 1), (2, 1)], [(0, 1)]))

    def test_sixty_upon_each(self):
        benches = [bench_of(2, [(0, 1)] * 60) for _ in range(3)]
        for bench in benches:
            self.refused_none_at(bench, (0, 1))
            self.assertEqual(len(bench.comparers()), 60)


class LinesRefused(unittest.TestCase):
    def refused(self, lines):
        with self.assertRaises(BadLines):
            Bench(lines)

    def test_out_of_bounds(self):
        for lines in (0, 11, 12, -1, -10, 10 ** 60, -10 ** 60, 10 ** 5000):
            self.refused(lines)

    def test_other_kinds(self):
        for lines in no_whole_numbers() + [SulkyInt(4), Sulky(), LikeAll()]:
            self.refused(lines)

    def test_true_is_not_one_line(self):
        self.refused(True)
        self.refused(False)


class Places(unittest.TestCase):
    def test_it_is_defined_in_bench(self):
        self.assertEqual(Bench.__module__, "sortweb.bench")
        self.assertIs(home.Bench, Bench)

    def test_each_method_is_its_own(self):
        for name in ("put", "take_back", "comparers", "many", "wild"):
            self.assertIn(name, vars(Bench))

    def test_arguments_by_their_names(self):
        bench = Bench(lines=2)
        self.assertIs(bench.put(comparer=(0, 1)), True)


if __name__ == "__main__":
    unittest.main()
