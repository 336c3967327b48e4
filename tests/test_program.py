"""The whole program: what its parts tell of one another, and what holds of all that is handed in and told."""

import copy
import importlib
import inspect
import unittest

from oddities import Sulky
from plain import all_rows, bubbling, out_of, webs
from sortweb.bench import Bench
from sortweb.errors import BadLines, BadOrder, BadPlace, BadRow, BadText, BadWeb, NothingPut, WebError
from sortweb.layers import chain, layers
from sortweb.looking import differing, needless, pruned, stirring, unsorted
from sortweb.making import beside, merging, sorting
from sortweb.running import run, steps
from sortweb.texts import web_of, web_text
from sortweb.turning import renamed, straightened, upside
from sortweb.webs import need_row, need_web

GREAT = 10 ** 60
WEB = [(0, 1), (3, 2), (2, 0), (0, 1), (0, 1), (1, 3)]

# The functions that the document lists, with their arguments, under the file in which each is defined.
INTERFACE = {
    "webs": {"need_web": ["lines", "comparers"], "need_row": ["lines", "row"]},
    "texts": {"web_text": ["lines", "comparers"], "web_of": ["text"]},
    "running": {"run": ["lines", "comparers", "row"], "steps": ["lines", "comparers", "row"]},
    "looking": {
        "unsorted": ["lines", "comparers"], "stirring": ["lines", "comparers", "place"],
        "needless": ["lines", "comparers"], "pruned": ["lines", "comparers"], "differing": ["lines", "one", "other"]},
    "layers": {"layers": ["lines", "comparers"], "chain": ["lines", "comparers"]},
    "making": {
        "merging": ["many", "more"], "sorting": ["lines"], "beside": ["lines", "comparers", "more", "others"]},
    "turning": {
        "renamed": ["lines", "comparers", "order"], "upside": ["lines", "comparers"],
        "straightened": ["lines", "comparers"]},
}
METHODS = {"put": ["comparer"], "take_back": [], "comparers": [], "many": [], "wild": []}

# What is asked, and with what.
ASKED = [
    (need_web, [4, WEB]), (need_row, [4, [3, 1, 2, 0]]), (web_text, [4, WEB]), (web_of, ["4: 0-1 3-2"]),
    (run, [4, WEB, [4, GREAT, -GREAT, 4]]), (run, [4, [], [4, 3, 2, 1]]), (steps, [4, WEB, [4, 3, 2, 1]]),
    (steps, [4, [], [4, 3, 2, 1]]), (unsorted, [4, WEB]), (unsorted, [4, bubbling(4)]), (stirring, [4, WEB, 1]),
    (stirring, [4, WEB, 4]), (needless, [4, WEB]), (needless, [4, []]), (pruned, [4, WEB]), (pruned, [4, bubbling(4)]),
    (differing, [4, WEB, []]), (differing, [4, WEB, WEB + [(1, 3)]]), (layers, [4, WEB]), (layers, [4, [(0, 1)]]),
    (chain, [4, WEB]), (chain, [4, []]), (merging, [3, 4]), (merging, [0, 1]), (sorting, [6]), (sorting, [1]),
    (beside, [4, WEB, 2, [(1, 0)]]), (beside, [4, WEB, 2, []]), (beside, [2, [], 4, WEB]),
    (renamed, [4, WEB, [2, 0, 3, 1]]), (renamed, [4, WEB, [0, 1, 2, 3]]), (upside, [4, WEB]), (upside, [4, []]),
    (straightened, [4, WEB]), (straightened, [4, []]), (straightened, [4, bubbling(4)]),
]

# What is refused, and by what.
REFUSED = [
    (need_web, [4, [[0, 1], (0, 0)]], BadWeb), (need_web, [[4], WEB], BadLines),
    (need_row, [4, [0, [1], 2, 3]], BadRow), (web_text, [4, WEB + [[1, 2]]], BadWeb), (web_of, [["4:"]], BadText),
    (run, [4, WEB, [1, 2, 3, [4]]], BadRow),
    (steps, [4, WEB, [1, 2, 3]], BadRow), (unsorted, [4, [(0, 4)]], BadWeb), (stirring, [4, WEB, [0]], BadPlace),
    (stirring, [4, WEB, 6], BadPlace), (needless, [4, [None]], BadWeb), (pruned, [0, WEB], BadLines),
    (differing, [4, WEB, [[0, 1]]], BadWeb), (layers, [4, [(0, 1), {}]], BadWeb), (chain, [4, [(1, 1)]], BadWeb),
    (merging, [[3], 4], BadLines), (merging, [6, 5], BadLines), (sorting, [[6]], BadLines),
    (beside, [4, WEB, 2, [[1, 0]]], BadWeb), (beside, [4, WEB, 7, []], BadLines),
    (beside, [4, WEB * 10, 2, [(0, 1)]], BadWeb), (renamed, [4, WEB, [2, 0, [3], 1]], BadOrder),
    (renamed, [4, WEB, [3, 0, 3, 1]], BadOrder), (upside, [4, [(0, 1), [0, 1]]], BadWeb),
    (straightened, [3, WEB], BadWeb), (Bench, [[4]], BadLines), (Bench(4).put, [[0, 1]], BadWeb),
    (Bench(4).put, [(0, [1])], BadWeb), (Bench(4).take_back, [], NothingPut),
]


def some_rows(lines):
    rising = list(range(lines))
    return [
        rising[::-1], [k * 7 % 10 for k in rising], [k * 3 % 10 - 4 for k in rising], [-k * 7 % 10 for k in rising],
        [(k % 3 - 1) * GREAT + k for k in rising], [k * k % 5 for k in rising], [5] * lines]


def lists_in(told):
    """The list that is told, and the lists within it."""
    if type(told) not in (list, tuple):
        return []
    inner = [each for part in told for each in lists_in(part)]
    return [told] + inner if type(told) is list else inner


def leaves(told):
    """What is in the lists and tuples that are told, and is none itself."""
    if type(told) not in (list, tuple):
        return [told]
    return [leaf for part in told for leaf in leaves(part)]


def scramble(lists):
    for each in lists:
        each.reverse()
        each.append("changed")
        each[0] = None


class Interface(unittest.TestCase):
    def test_each_function_is_defined_in_its_file_with_its_arguments(self):
        for name, functions in INTERFACE.items():
            module = importlib.import_module("sortweb." + name)
            for function, arguments in functions.items():
                with self.subTest(function):
                    told = getattr(module, function)
                    self.assertTrue(inspect.isfunction(told))
                    self.assertEqual((told.__module__, told.__name__), (module.__name__, function))
                    self.assertEqual(list(inspect.signature(told).parameters), arguments)

    def test_a_bench_with_its_methods(self):
        self.assertEqual(list(inspect.signature(Bench).parameters), ["lines"])
        for name, arguments in METHODS.items():
            self.assertEqual(list(inspect.signature(vars(Bench)[name]).parameters), ["self"] + arguments)

    def test_each_function_is_asked_and_refuses_here(self):
        listed = {name for functions in INTERFACE.values() for name in functions}
        self.assertEqual({ask.__name__ for ask, _ in ASKED}, listed)
        self.assertEqual({ask.__name__ for ask, _, _ in REFUSED}, listed | {"Bench", "put", "take_back"})


class OneWebManyWays(unittest.TestCase):
    """A web and what other parts of the program make of it do the same."""

    def do_the_same(self, lines, one, other):
        self.assertIsNone(differing(lines, one, other))
        for row in some_rows(lines):
            self.assertEqual(run(lines, one, row), run(lines, other, row))
        if lines < 5:
            for row in all_rows(lines):
                self.assertEqual(run(lines, one, row), run(lines, other, row))

    def test_written_and_read(self):
        for lines, comparers in webs():
            self.assertEqual(web_of(web_text(lines, comparers)), (lines, comparers))
            self.do_the_same(lines, comparers, web_of(web_text(lines, comparers))[1])

    def test_layer_by_layer(self):
        for lines, comparers in webs():
            in_layers = [comparer for layer in layers(lines, comparers) for comparer in layer]
            self.do_the_same(lines, comparers, in_layers)
            self.assertEqual(layers(lines, in_layers), layers(lines, comparers))
            self.assertEqual(len(chain(lines, comparers)), len(layers(lines, comparers)))

    def test_pruned(self):
        for lines, comparers in webs():
            self.do_the_same(lines, comparers, pruned(lines, comparers))

    def test_upside_down_twice(self):
        for lines, comparers in webs():
            self.do_the_same(lines, comparers, upside(lines, upside(lines, comparers)))

    def test_called_otherwise_and_back(self):
        for lines, comparers in webs():
            rising = list(range(lines))
            for order in (rising[::-1], rising[1:] + rising[:1], rising[1::2] + rising[::2]):
                back = [order.index(line) for line in rising]
                self.do_the_same(lines, comparers, renamed(lines, renamed(lines, comparers, order), back))

    def test_put_upon_a_bench_comparer_by_comparer(self):
        for lines, comparers in webs():
            bench = Bench(lines)
            idle = [place for place, comparer in enumerate(comparers) if not bench.put(comparer)]
            self.do_the_same(lines, comparers, bench.comparers())
            self.assertEqual(idle, needless(lines, comparers))
            self.assertEqual(bench.wild() is None, unsorted(lines, comparers) is None)
            self.assertEqual(bench.many(), len({tuple(out_of(comparers, row)) for row in all_rows(lines)}))

    def test_its_straight_one_but_for_the_spots(self):
        for lines, comparers in webs():
            straight, spots = straightened(lines, comparers)
            for row in some_rows(lines) + (all_rows(lines) if lines < 5 else []):
                told = run(lines, straight, row)
                self.assertEqual(run(lines, comparers, row), [told[spot] for spot in spots])
            if spots == list(range(lines)):
                self.do_the_same(lines, comparers, straight)

    def test_its_straight_one_called_by_the_spots_turned_back(self):
        # Called so the straight one's lines are those on which its numbers come out of the web.
        for lines, comparers in webs():
            straight, spots = straightened(lines, comparers)
            back = [spots.index(line) for line in range(lines)]
            told = renamed(lines, straight, back)
            for row in some_rows(lines):
                called = [row[spot] for spot in spots]
                self.assertEqual(run(lines, told, called), run(lines, comparers, row))

    def test_made_webs_too(self):
        for lines in range(1, 11):
            comparers = sorting(lines)
            self.assertIsNone(unsorted(lines, comparers))
            self.do_the_same(lines, comparers, bubbling(lines))
            self.do_the_same(lines, comparers, upside(lines, comparers))
            self.assertEqual(straightened(lines, comparers), (comparers, list(range(lines))))
            for many in range(lines + 1):
                halves = [(a, b) for a, b in bubbling(lines) if b < many or a >= many]
                self.do_the_same(lines, halves + merging(many, lines - many), comparers)

    def test_two_that_sort_beside_one_another_and_merged(self):
        for many in range(1, 10):
            for more in range(1, 11 - many):
                halves = beside(many, sorting(many), more, sorting(more))
                self.assertIsNone(unsorted(many + more, halves + merging(many, more)))
                self.assertEqual(unsorted(many + more, halves) is None, False)


class HandedIn(unittest.TestCase):
    def test_nothing_is_changed(self):
        for ask, told_with in ASKED:
            with self.subTest(ask.__name__):
                handed_in = copy.deepcopy(told_with)
                ask(*handed_in)
                self.assertEqual(handed_in, told_with)

    def test_nothing_is_kept_as_it_is(self):
        for ask, told_with in ASKED:
            with self.subTest(ask.__name__):
                handed_in = copy.deepcopy(told_with)
                lists = lists_in(tuple(handed_in))
                told = ask(*handed_in)
                for each in lists_in(told):
                    self.assertFalse(any(each is other for other in lists))
                held = copy.deepcopy(told)
                scramble(lists)
                self.assertEqual(told, held)

    def test_what_is_refused_changes_nothing(self):
        for ask, told_with, refusal in REFUSED:
            with self.subTest(ask.__name__):
                handed_in = copy.deepcopy(told_with)
                with self.assertRaises(refusal) as caught:
                    ask(*handed_in)
                self.assertIs(type(caught.exception), refusal)
                self.assertIsInstance(caught.exception, WebError)
                self.assertEqual(handed_in, told_with)


class Told(unittest.TestCase):
    def test_the_same_each_time(self):
        for ask, told_with in ASKED:
            with self.subTest(ask.__name__):
                meant = copy.deepcopy(ask(*copy.deepcopy(told_with)))
                for _ in range(3):
                    self.assertEqual(ask(*copy.deepcopy(told_with)), meant)

    def test_what_is_done_to_it_changes_nothing(self):
        for ask, told_with in ASKED:
            with self.subTest(ask.__name__):
                handed_in = copy.deepcopy(told_with)
                told = ask(*handed_in)
                meant = copy.deepcopy(told)
                scramble(lists_in(told))
                self.assertEqual(handed_in, told_with)
                self.assertEqual(ask(*handed_in), meant)

    def test_lists_within_it_are_lists_of_their_own(self):
        for ask, told_with in ASKED:
            with self.subTest(ask.__name__):
                lists = lists_in(ask(*copy.deepcopy(told_with)))
                self.assertEqual(len(lists), len({id(each) for each in lists}))

    def test_nothing_asked_later_changes_it(self):
        told = [ask(*copy.deepcopy(told_with)) for ask, told_with in ASKED]
        held = copy.deepcopy(told)
        for ask, told_with in reversed(ASKED):
            scramble(lists_in(ask(*copy.deepcopy(told_with))))
        self.assertEqual(told, held)

    def test_whole_numbers_are_ints(self):
        for ask, told_with in ASKED:
            told = ask(*copy.deepcopy(told_with))
            if type(told) in (list, tuple):
                self.assertTrue(all(type(leaf) is int for leaf in leaves(told)), ask.__name__)

    def test_a_refusal_does_not_change_what_is_told_behind_it(self):
        for ask, told_with, refusal in REFUSED:
            for _ in range(2):
                with self.assertRaises(refusal):
                    ask(*told_with)
        for ask, told_with in ASKED:
            self.assertEqual(ask(*copy.deepcopy(told_with)), ask(*copy.deepcopy(told_with)))


class FirstRefusalThatFits(unittest.TestCase):
    def refused_by(self, refusal, ask, *told):
        with self.assertRaises(WebError) as caught:
            ask(*told)
        self.assertIs(type(caught.exception), refusal)

    def test_lines_then_the_web_then_the_rest(self):
        for ask in (run, steps, stirring, differing, renamed):
            for rest in (None, Sulky(), [(0, 0)], [0, 0], -1):
                self.refused_by(BadLines, ask, 0, None, rest)
                self.refused_by(BadWeb, ask, 2, None, rest)
        for refusal, ask in ((BadRow, run), (BadRow, steps), (BadPlace, stirring), (BadWeb, differing),
                             (BadOrder, renamed)):
            for rest in (None, Sulky(), [(0, 0)], [0, 2.5], -1, True):
                self.refused_by(refusal, ask, 2, [(0, 1)], rest)

    def test_rows_alone_where_a_row_alone_is_asked(self):
        for lines in (0, 11, -1, None, True, "2", [2], Sulky()):
            for row in ([0, 1], None, [None], Sulky()):
                self.refused_by(BadRow, need_row, lines, row)


if __name__ == "__main__":
    unittest.main()
