"""sortweb.texts: a web as a text, and a web out of its text."""

import itertools
import re
import unittest

from oddities import no_texts
from refusals import RefusesNoWebs
from sortweb.errors import BadText
from sortweb.texts import web_of, web_text

# Figures of other scripts, blanks of many kinds, and signs that look like those of a text.
STRANGE = list("0123456789:- \t\n\r\v\f+_.,;/xA") + [
    "\u00a0", "\u2003", "\u200b", "\u2028", "\u0661", "\u0660", "\uff11", "\uff10", "\u00b9", "\u2081", "\u0967",
    "\U0001d7cf",
    "\u2212", "\u2010", "\u2013", "\u00ad", "\uff0d", "\uff1a", "\u2236", "\x00", "\x1f", "\ud800", "\ufeff",
]

WEBS = [
    (1, []), (2, []), (10, []), (2, [(0, 1)]), (2, [(1, 0)]), (4, [(0, 1), (3, 2)]), (10, [(9, 0), (0, 9), (8, 9)]),
    (3, [(0, 1), (0, 1), (1, 0), (1, 2)]), (10, [(a, b) for a in range(10) for b in range(10) if a != b][:60]),
]


def meant(text):
    """The web of a text, None of another text: told by another way than the program's."""
    if re.fullmatch("([1-9]|10):( [0-9]-[0-9])*", text) is None:
        return None
    lines = int(text.split(":")[0])
    comparers = [(int(a), int(b)) for a, b in re.findall(" (.)-(.)", text)]
    for a, b in comparers:
        if a == b or a >= lines or b >= lines:
            return None
    return (lines, comparers) if len(comparers) <= 60 else None


class WebText(unittest.TestCase):
    def test_those_of_the_document(self):
        self.assertEqual(web_text(4, [(0, 1), (3, 2)]), "4: 0-1 3-2")
        self.assertEqual(web_text(2, []), "2:")

    def test_each_number_of_lines(self):
        texts = [web_text(lines, []) for lines in range(1, 11)]
        self.assertEqual(texts, ["1:", "2:", "3:", "4:", "5:", "6:", "7:", "8:", "9:", "10:"])

    def test_lines_of_two_figures(self):
        self.assertEqual(web_text(10, [(9, 0), (0, 9)]), "10: 9-0 0-9")

    def test_comparers_in_their_order_as_they_stand(self):
        self.assertEqual(web_text(5, [(4, 1), (0, 4), (4, 1), (2, 0)]), "5: 4-1 0-4 4-1 2-0")

    def test_sixty_comparers(self):
        self.assertEqual(web_text(2, [(1, 0)] * 60), "2:" + " 1-0" * 60)

    def test_a_text(self):
        for lines, comparers in WEBS:
            self.assertIs(type(web_text(lines, comparers)), str)
            self.assertEqual(meant(web_text(lines, comparers)), (lines, comparers))

    def test_what_is_handed_in_stays_as_it_was(self):
        comparers = [(0, 1), (3, 2)]
        web_text(4, comparers)
        self.assertEqual(comparers, [(0, 1), (3, 2)])

    def test_what_is_done_later_changes_nothing(self):
        comparers = [(0, 1)]
        text = web_text(4, comparers)
        comparers.append((3, 2))
        self.assertEqual(text, "4: 0-1")
        self.assertEqual(web_text(4, comparers), "4: 0-1 3-2")


class WebTextRefused(RefusesNoWebs, unittest.TestCase):
    ASKS = [web_text]


class WebOf(unittest.TestCase):
    def test_those_of_the_document(self):
        self.assertEqual(web_of("4: 0-1 3-2"), (4, [(0, 1), (3, 2)]))
        self.assertEqual(web_of("2:"), (2, []))

    def test_reads_what_web_text_writes(self):
        for lines, comparers in WEBS:
            self.assertEqual(web_of(web_text(lines, comparers)), (lines, comparers))

    def test_each_comparer_of_each_number_of_lines(self):
        for lines in range(1, 11):
            self.assertEqual(web_of(f"{lines}:"), (lines, []))
            for a, b in itertools.permutations(range(lines), 2):
                self.assertEqual(web_of(f"{lines}: {a}-{b}"), (lines, [(a, b)]))

    def test_kinds(self):
        told = web_of("10: 9-0 0-1")
        self.assertIs(type(told), tuple)
        lines, comparers = told
        self.assertEqual((type(lines), type(comparers)), (int, list))
        for comparer in comparers:
            self.assertIs(type(comparer), tuple)
            self.assertEqual([type(line) for line in comparer], [int, int])

    def test_its_list_is_the_askers_own(self):
        for text in ("4: 0-1 3-2", "2:"):
            held = web_of(text)[1]
            before = list(held)
            other = web_of(text)[1]
            other.append("mine")
            other[0] = "mine, too"
            self.assertEqual(held, before)
            self.assertEqual(web_of(text)[1], before)


class WebOfRefused(unittest.TestCase):
    def refused(self, *texts):
        for text in texts:
            with self.subTest(repr(text)):
                with self.assertRaises(BadText):
                    web_of(text)

    def test_what_is_no_text(self):
        for value in no_texts():
            with self.assertRaises(BadText):
                web_of(value)

    def test_the_empty_text(self):
        self.refused("")

    def test_a_missing_colon(self):
        self.refused("2", "10", "4 0-1", "4  0-1", "0-1", " 0-1", "40-1", "4; 0-1", "4- 0-1")

    def test_colons_too_many(self):
        self.refused("2::", ":2:", "4:: 0-1", "4: :0-1", "4: 0:1", "4: 0-1:", "4: 0-1 2: 0-1", ":")

    def test_missing_lines(self):
        self.refused(":", ": 0-1", " : 0-1")

    def test_a_nought_ahead(self):
        self.refused("02:", "04: 0-1", "010:", "4: 00-1", "4: 0-01", "4: 01-2", "4: 1-02", "10: 0-09")

    def test_a_sign_left_out(self):
        self.refused("4: 01", "4: 0-", "4: -1", "4: 0 1", "4:0-1", "4: 0-13-2", "4: 0-1 32", "4: 0", "4: -")

    def test_a_sign_doubled(self):
        self.refused("44: 0-1", "4:: 0-1", "4:  0-1", "4: 00-1", "4: 0--1", "4: 0-11", "4: 0-1  3-2", "4: 0-1 3--2")

    def test_a_sign_put_in(self):
        self.refused("+4:", "-4:", "4: +0-1", "4: 0-+1", "4: 0-1, 3-2", "4: 0-1-2", "4: (0-1)", "4: 1_0-2", "1_0:")

    def test_a_sign_exchanged(self):
        self.refused("4: 0+1", "4: 0_1", "4:_0-1", "4: 0-1_3-2", "4. 0-1", "4: 0:1", "4:-0-1", "a: 0-1", "4: a-1",
                     "4: 0-b")

    def test_blanks_too_many_or_at_the_end(self):
        self.refused(" 2:", "2: ", "2 :", "2:  ", "4: 0-1 ", "4:  0-1", " 4: 0-1", "4: 0 -1", "4: 0- 1", "4: 0-1  3-2",
                     " ")

    def test_line_feeds_and_their_kin(self):
        for sign in "\n\r\t\v\f\x1c\x85\u2028\u00a0":
            self.refused(sign, "2:" + sign, sign + "2:", "4:" + sign + "0-1", "4: 0-1" + sign, "4: 0-1" + sign + "3-2",
                         "4: 0-1 3-2" + sign, "4: 0-1 " + sign + "3-2", "4" + sign + ": 0-1")

    def test_figures_that_are_not_0_to_9(self):
        self.refused("\u0664: 0-1", "4: \u0660-1", "4: 0-\u0661", "4: 0-\uff11", "\uff14:", "1\u0660:", "4: 0-\u00b9",
                     "\u2463:", "IV: 0-1", "0x4: 0-1", "four:", "4.0:", "4e0:")

    def test_lines_out_of_bounds(self):
        self.refused("0:", "11:", "12: 0-1", "20:", "99:", "100:", "-1:", "-0:", "1" * 5000 + ":", "0: 0-1")

    def test_like_lines(self):
        for line in range(10):
            self.refused(f"10: {line}-{line}", f"10: 0-1 {line}-{line}", f"10: {line}-{line} 0-1")
        self.refused("1: 0-0")

    def test_lines_that_are_not_there(self):
        for lines in range(1, 11):
            self.refused(f"{lines}: 0-{lines}", f"{lines}: {lines}-0", f"{lines}: 0-{lines + 1}", f"{lines}: 0-99")
        self.refused("4: 0-1 1-4", "4: 0-4 0-1", "4: 0-" + "1" * 5000)

    def test_more_than_sixty_comparers(self):
        self.assertEqual(web_of("2:" + " 0-1" * 60), (2, [(0, 1)] * 60))
        self.refused("2:" + " 0-1" * 61, "2:" + " 0-1" * 1000)

    def test_all_short_texts(self):
        texts = []
        for many in range(8):
            for signs in itertools.product("012:- ", repeat=many):
                text = "".join(signs)
                if self.as_meant(text):
                    texts.append(text)
        self.assertEqual(texts, ["1:", "2:", "10:", "2: 0-1", "2: 1-0", "10: 0-1", "10: 0-2", "10: 1-0", "10: 1-2",
                                 "10: 2-0", "10: 2-1"])

    def test_all_changes_of_one_sign(self):
        for text in ("1:", "2:", "10:", "2: 1-0", "4: 0-1 3-2", "10: 9-0 0-9"):
            for at in range(len(text) + 1):
                self.as_meant(text[:at] + text[at + 1:])
                self.as_meant(text[:at])
                for sign in STRANGE:
                    self.as_meant(text[:at] + sign + text[at:])
                    self.as_meant(text[:at] + sign + text[at + 1:])

    def as_meant(self, text):
        """Whether the text is a web's; fails where the program says other than meant."""
        web = meant(text)
        if web is not None:
            self.assertEqual(web_of(text), web)
            return True
        try:
            told = web_of(text)
        except BadText:
            return False
        self.fail(f"{text!r} was read as {told}")


class Places(unittest.TestCase):
    def test_each_is_defined_in_texts(self):
        for function in (web_text, web_of):
            self.assertEqual(function.__module__, "sortweb.texts")

    def test_arguments_by_their_names(self):
        self.assertEqual(web_text(lines=2, comparers=[(0, 1)]), "2: 0-1")
        self.assertEqual(web_of(text="2: 0-1"), (2, [(0, 1)]))


if __name__ == "__main__":
    unittest.main()
