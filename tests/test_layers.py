"""sortweb.layers: in how few layers a web stands, and a chain that shows it."""

import unittest

from plain import bubbling, out_of, webs
from refusals import RefusesNoWebs
from sortweb.layers import chain, layers

WEB = [(0, 1), (2, 3), (0, 2), (1, 3), (1, 2)]


def meet(one, other):
    return len(set(one + other)) < 4


def layer_of(comparers, place):
    """In which layer the comparer of the place stands, from 0 on, as the document words it."""
    ahead = [layer_of(comparers, earlier) for earlier in range(place) if meet(comparers[earlier], comparers[place])]
    return max(ahead) + 1 if ahead else 0


def some_webs():
    """Webs of which each comparer's layer is found in a short time by asking over and over."""
    return [(lines, comparers) for lines, comparers in webs() if len(comparers) <= 10]


def layers_of(comparers):
    """The layers, by a table: told once for each place, ahead of those behind it."""
    table = []
    for place, comparer in enumerate(comparers):
        met = [table[earlier] for earlier in range(place) if meet(comparers[earlier], comparer)]
        table.append(max(met, default=-1) + 1)
    return [
        [comparer for comparer, layer in zip(comparers, table) if layer == wanted]
        for wanted in range(max(table, default=-1) + 1)]


class Layers(unittest.TestCase):
    def test_without_comparers(self):
        for lines in range(1, 11):
            self.assertEqual(layers(lines, []), [])

    def test_one_comparer(self):
        self.assertEqual(layers(2, [(0, 1)]), [[(0, 1)]])
        self.assertEqual(layers(5, [(4, 1)]), [[(4, 1)]])

    def test_comparers_without_a_line_in_common(self):
        self.assertEqual(layers(4, [(0, 1), (3, 2)]), [[(0, 1), (3, 2)]])
        self.assertEqual(layers(10, [(k, k + 1) for k in (8, 0, 4, 2, 6)]), [[(8, 9), (0, 1), (4, 5), (2, 3), (6, 7)]])

    def test_each_way_to_have_a_line_in_common(self):
        for comparer in ((0, 2), (2, 0), (1, 2), (2, 1), (0, 1), (1, 0)):
            self.assertEqual(layers(3, [(0, 1), comparer]), [[(0, 1)], [comparer]])

    def test_three_layers(self):
        self.assertEqual(layers(4, WEB), [[(0, 1), (2, 3)], [(0, 2), (1, 3)], [(1, 2)]])

    def test_a_late_one_in_the_first_layer(self):
        self.assertEqual(layers(5, [(0, 1), (1, 2), (0, 2), (4, 3)]), [[(0, 1), (4, 3)], [(1, 2)], [(0, 2)]])

    def test_behind_the_last_one_on_either_line(self):
        self.assertEqual(
            layers(5, [(0, 1), (0, 1), (0, 1), (2, 3), (1, 2)]), [[(0, 1), (2, 3)], [(0, 1)], [(0, 1)], [(1, 2)]])
        self.assertEqual(
            layers(5, [(0, 1), (0, 1), (0, 1), (2, 3), (2, 1)]), [[(0, 1), (2, 3)], [(0, 1)], [(0, 1)], [(2, 1)]])
        self.assertEqual(
            layers(5, [(2, 3), (0, 1), (0, 1), (3, 4), (1, 3)]), [[(2, 3), (0, 1)], [(0, 1), (3, 4)], [(1, 3)]])

    def test_as_they_stand_in_the_web(self):
        self.assertEqual(layers(6, [(5, 4), (3, 2), (1, 0), (4, 2), (0, 5)]), [
            [(5, 4), (3, 2), (1, 0)], [(4, 2), (0, 5)]])

    def test_sixty_layers(self):
        self.assertEqual(layers(2, [(0, 1), (1, 0)] * 30), [[(0, 1)], [(1, 0)]] * 30)

    def test_as_the_document_words_it(self):
        for lines, comparers in some_webs():
            told = layers(lines, comparers)
            for wanted, layer in enumerate(told):
                self.assertEqual(layer, [
                    comparer for place, comparer in enumerate(comparers) if layer_of(comparers, place) == wanted])
            self.assertEqual(sum(map(len, told)), len(comparers))

    def test_many_webs(self):
        for lines, comparers in webs():
            told = layers(lines, comparers)
            self.assertEqual(told, layers_of(comparers))
            for layer in told:
                on = [line for comparer in layer for line in comparer]
                self.assertEqual(len(on), len(set(on)))
                self.assertGreater(len(layer), 0)

    def test_layer_by_layer_the_web_does_the_same(self):
        for lines, comparers in webs():
            in_layers = [comparer for layer in layers(lines, comparers) for comparer in layer]
            for row in ([k * 7 % 10 for k in range(lines)], list(range(lines, 0, -1)), [k % 2 for k in range(lines)]):
                self.assertEqual(out_of(in_layers, row), out_of(comparers, row))


class Chain(unittest.TestCase):
    def checked(self, lines, comparers):
        places = chain(lines, comparers)
        self.assertIs(type(places), list)
        self.assertEqual(len(places), len(layers_of(comparers)))
        for place in places:
            self.assertIs(type(place), int)
            self.assertIn(place, range(len(comparers)))
        for place, later in zip(places, places[1:]):
            self.assertLess(place, later)
            self.assertTrue(meet(comparers[place], comparers[later]))
        self.assertEqual(chain(lines, list(comparers)), places)

    def test_without_comparers(self):
        for lines in range(1, 11):
            self.assertEqual(chain(lines, []), [])

    def test_one_comparer(self):
        self.assertEqual(chain(2, [(0, 1)]), [0])
        self.assertEqual(chain(10, [(9, 4)]), [0])

    def test_comparers_of_one_layer(self):
        self.assertIn(chain(4, [(0, 1), (3, 2)]), ([0], [1]))

    def test_the_only_chain(self):
        self.assertEqual(chain(5, [(0, 1), (3, 4), (1, 2), (0, 2)]), [0, 2, 3])
        self.assertEqual(chain(5, [(0, 1), (1, 2), (0, 3), (2, 4)]), [0, 1, 3])
        self.assertEqual(chain(2, [(0, 1), (1, 0)] * 30), list(range(60)))

    def test_one_that_ends_ahead_of_the_last_comparer(self):
        self.assertEqual(chain(4, [(0, 1), (1, 0), (0, 1), (2, 3)]), [0, 1, 2])

    def test_one_that_does_not_begin_at_the_first_comparer(self):
        self.assertEqual(chain(4, [(2, 3), (0, 1), (1, 0)]), [1, 2])

    def test_like_comparers_apart(self):
        # The last comparer of the layer ahead has no line in common with the last one.
        self.assertEqual(chain(4, [(0, 1), (0, 1), (2, 3), (2, 3), (0, 1)]), [0, 1, 4])

    def test_many_webs(self):
        for lines, comparers in webs():
            self.checked(lines, comparers)
        for lines in range(2, 11):
            for one in range(1, lines):
                self.checked(lines, bubbling(lines)[::one])


class HandedInAndTold(unittest.TestCase):
    def test_what_is_handed_in_stays_as_it_was(self):
        for ask in (layers, chain):
            comparers = list(WEB)
            ask(4, comparers)
            self.assertEqual(comparers, WEB)

    def test_what_is_done_later_changes_nothing(self):
        for ask in (layers, chain):
            comparers = list(WEB)
            told = ask(4, comparers)
            comparers.clear()
            self.assertEqual(told, ask(4, list(WEB)))

    def test_the_told_list_is_the_askers_own(self):
        for ask in (layers, chain):
            for before in (WEB, [(0, 1)], []):
                comparers = list(before)
                told, meant = ask(4, comparers), ask(4, comparers)
                self.assertIs(type(told), list)
                told.append(7)
                told.reverse()
                self.assertEqual(comparers, before)
                self.assertEqual(ask(4, comparers), meant)

    def test_each_layer_is_the_askers_own(self):
        meant = [[(0, 1), (2, 3)], [(0, 2), (1, 3)], [(1, 2)]]
        comparers = list(WEB)
        for place in range(3):
            told = layers(4, comparers)
            self.assertIs(type(told[place]), list)
            told[place].append((3, 0))
            told[place].reverse()
            self.assertEqual(told[:place] + told[place + 1:], meant[:place] + meant[place + 1:])
            self.assertEqual(comparers, WEB)
            self.assertEqual(layers(4, comparers), meant)

    def test_the_only_layer_is_not_the_web_itself(self):
        comparers = [(0, 1), (2, 3)]
        layers(4, comparers)[0].clear()
        self.assertEqual(comparers, [(0, 1), (2, 3)])


class WebsRefused(RefusesNoWebs, unittest.TestCase):
    ASKS = [layers, chain]


class Places(unittest.TestCase):
    def test_each_is_defined_in_layers(self):
        for function in (layers, chain):
            self.assertEqual(function.__module__, "sortweb.layers")

    def test_arguments_by_their_names(self):
        self.assertEqual(layers(lines=2, comparers=[(0, 1)]), [[(0, 1)]])
        self.assertEqual(chain(lines=2, comparers=[(0, 1)]), [0])


if __name__ == "__main__":
    unittest.main()
