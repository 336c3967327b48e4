"""How each function that is handed a web refuses what is none."""

from oddities import Sulky, SulkyInt, no_lists, no_tuples, no_whole_numbers
from sortweb.errors import BadLines, BadWeb


class RefusesNoWebs:
    """Tests for a TestCase, of its ASKS: functions of (lines, comparers), whatever else they hand in."""

    ASKS = ()

    def lines_refused(self, lines, comparers):
        for ask in self.ASKS:
            with self.assertRaises(BadLines):
                ask(lines, comparers)

    def web_refused_at(self, place, lines, comparers):
        for ask in self.ASKS:
            with self.assertRaises(BadWeb) as caught:
                ask(lines, comparers)
            told = caught.exception.place
            self.assertEqual((told, type(told)), (place, type(place)))

    def test_something_is_asked(self):
        self.assertGreater(len(self.ASKS), 0)

    def test_lines_out_of_bounds(self):
        for lines in (0, 11, 12, -1, -10, 10 ** 60, -10 ** 60, 10 ** 5000):
            for comparers in ([], [(0, 1)]):
                self.lines_refused(lines, comparers)

    def test_lines_of_other_kinds(self):
        for lines in no_whole_numbers():
            self.lines_refused(lines, [])

    def test_lines_ahead_of_comparers(self):
        for lines in (0, 11, -1, True, False, None, "4", [4], 4.0, SulkyInt(4)):
            for comparers in (None, (), "", [None], [(0, 0)], [(0, 1)] * 61, [(0, 1), (5, 5)], Sulky()):
                self.lines_refused(lines, comparers)

    def test_no_list_of_comparers(self):
        for comparers in no_lists():
            self.web_refused_at(None, 2, comparers)

    def test_more_than_sixty_comparers(self):
        for comparers in ([(0, 1)] * 61, [(1, 0)] * 500, [None] * 61, [(0, 0)] + [(0, 1)] * 60):
            self.web_refused_at(None, 2, comparers)

    def test_comparers_that_are_none(self):
        for comparer in no_tuples() + [(), (0,), (0, 1, 0), (0, 0), (0, 2), (2, 1), (-1, 0), (1, -1), (0, 10 ** 60)]:
            self.web_refused_at(0, 2, [comparer, None])
            self.web_refused_at(1, 2, [(0, 1), comparer, (1, 1)])
            self.web_refused_at(59, 2, [(0, 1)] * 59 + [comparer])

    def test_lines_of_comparers_that_are_none(self):
        for line in no_whole_numbers():
            self.web_refused_at(0, 3, [(0, line), (1, 1)])
            self.web_refused_at(2, 3, [(0, 1), (2, 0), (line, 0)])

    def test_no_comparer_on_one_line(self):
        for comparer in ((0, 0), (0, 1), (1, 0), (0, -1)):
            self.web_refused_at(0, 1, [comparer])

    def test_what_is_refused_stays_as_it_was(self):
        comparer = [1, 0]
        comparers = [(0, 1), comparer, None]
        self.web_refused_at(1, 2, comparers)
        self.lines_refused(0, comparers)
        self.assertEqual(comparers, [(0, 1), [1, 0], None])
        self.assertIs(comparers[1], comparer)
