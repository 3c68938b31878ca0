"""Promises 17 and 18: state and meet."""

import re
import unittest

from tests.calling import LinkCase, load, mark, marks, meet, run, signs, state
from tests.test_grammar import MARK, can_go_on, in_bundles, is_link, texts_of

HELD = [load("https://h:7/x?y=z#f")]
LABEL = "a1-" * 21


class Modes(LinkCase):
    def assertState(self, text, numbers):
        self.assertAnswer(state(text), [0] + numbers)

    def test_the_beginning(self):
        self.assertState("", [0, 0, 1, 0, 0, 0, 0])

    def test_in_a_segment_how_much_of_a_scheme(self):
        for n in range(1, 6):
            self.assertState("https"[:n], [0, 0, 1, n, 3, 0, 0])
        for text in ("a", "hta", "httpa", "httpss", "H", "hh", "th", "http-"):
            self.assertState(text, [0, 0, 1, 9, 3, 0, 0])

    def test_in_a_segment_no_scheme_elsewhere(self):
        self.assertState("/", [0, 0, 1, 9, 0, 0, 0])
        self.assertState("/http", [0, 0, 1, 9, 3, 0, 0])
        self.assertState("a/", [0, 0, 0, 9, 0, 0, 0])
        self.assertState("a/h", [0, 0, 0, 9, 3, 0, 0])
        self.assertState("http/", [0, 0, 0, 9, 0, 0, 0])
        self.assertState(mark(0), [0, 0, 1, 9, 0, 0, 0])
        self.assertState(signs("http", mark(0)), [0, 0, 1, 9, 3, 0, 0])
        self.assertState(signs(mark(0), "h"), [0, 0, 1, 9, 3, 0, 0])
        self.assertState("%68", [0, 0, 1, 9, 3, 0, 0])
        self.assertState("http%41", [0, 0, 1, 9, 3, 0, 0])

    def test_in_a_segment_whether_it_is_the_first(self):
        self.assertState("/a", [0, 0, 1, 9, 3, 0, 0])
        self.assertState("/a/", [0, 0, 0, 9, 0, 0, 0])
        self.assertState("a//", [0, 0, 0, 9, 0, 0, 0])
        self.assertState("http://a/", [0, 0, 0, 9, 0, 0, 0])
        self.assertState("http://a/b/", [0, 0, 0, 9, 0, 0, 0])
        self.assertState("https://a:1/b", [0, 0, 0, 9, 3, 0, 0])

    def test_in_a_segment_its_written_signs(self):
        for before, first in (("/", 1), ("a/", 0), ("/a/", 0), ("http://a/", 0)):
            for text, dots in (("", 0), (mark(0), 0), (".", 1), (signs(mark(0), "."), 1), (signs(".", mark(0)), 1),
                               ("..", 2), (signs(".", mark(0), ".", mark(1)), 2), ("...", 3), ("....", 3), (".a", 3),
                               ("a.", 3), ("..a", 3), ("a", 3), ("%2E", 3), (".%2E", 3), ("%2E.", 3)):
                self.assertState(signs(before, text), [0, 0, first, 9, dots, 0, 0])
        self.assertState(".", [0, 0, 1, 9, 1, 0, 0])
        self.assertState("..", [0, 0, 1, 9, 2, 0, 0])

    def test_behind_the_scheme(self):
        for scheme in ("http", "https"):
            self.assertState(scheme + ":", [1, 0, 0, 0, 0, 0, 0])
            self.assertState(scheme + ":/", [2, 0, 0, 0, 0, 0, 0])
            self.assertState(scheme + "://", [3, 0, 0, 0, 0, 0, 0])

    def test_in_the_host(self):
        self.assertState("http://a", [3, 0, 0, 0, 0, 1, 0])
        self.assertState("http://ab-", [3, 0, 0, 0, 0, 3, 0])
        self.assertState("http://abc.", [3, 0, 0, 0, 0, 0, 0])
        self.assertState("http://abc.de", [3, 0, 0, 0, 0, 2, 0])
        self.assertState("https://" + LABEL, [3, 0, 0, 0, 0, 63, 0])

    def test_in_a_port(self):
        self.assertState("http://a:", [4, 0, 0, 0, 0, 0, 0])
        self.assertState("http://a:8", [4, 0, 0, 0, 0, 0, 8])
        self.assertState("http://a.b:80", [4, 0, 0, 0, 0, 0, 80])
        self.assertState("http://a:65535", [4, 0, 0, 0, 0, 0, 65535])

    def test_in_query_and_fragment(self):
        for before in ("", "a", "/", "a/b", "http", "http://a", "http://ab:12", "http://a/", signs(mark(0))):
            for text in ("?", "?a", "?.", "?..", "?h", "?a=b&", "?%41", "?&&", signs("?", mark(0))):
                self.assertState(signs(before, text), [6, 0, 0, 0, 0, 0, 0])
            for text in ("?=", "?a=", "?a=.", "?=http", "?a&b=c", "?=%41", signs("?=", mark(0))):
                self.assertState(signs(before, text), [7, 0, 0, 0, 0, 0, 0])
            for text in ("#", "#a", "#..", "?#", "?a=b#c", "#%41", signs("#", mark(0))):
                self.assertState(signs(before, text), [8, 0, 0, 0, 0, 0, 0])

    def test_behind_a_percent_in_a_segment(self):
        for text, mode in (("%", 9), ("%4", 10)):
            self.assertState(text, [mode, 0, 1, 9, 0, 0, 0])
            self.assertState("h" + text, [mode, 0, 1, 9, 3, 0, 0])
            self.assertState("http" + text, [mode, 0, 1, 9, 3, 0, 0])
            self.assertState("." + text, [mode, 0, 1, 9, 1, 0, 0])
            self.assertState(".." + text, [mode, 0, 1, 9, 2, 0, 0])
            self.assertState("..." + text, [mode, 0, 1, 9, 3, 0, 0])
            self.assertState("%41" + text, [mode, 0, 1, 9, 3, 0, 0])
            self.assertState(signs(mark(0), text), [mode, 0, 1, 9, 0, 0, 0])
            self.assertState("/" + text, [mode, 0, 1, 9, 0, 0, 0])
            self.assertState("a/" + text, [mode, 0, 0, 9, 0, 0, 0])
            self.assertState("http://a/." + text, [mode, 0, 0, 9, 1, 0, 0])

    def test_behind_a_percent_in_query_and_fragment(self):
        for text, mode in (("%", 9), ("%f", 10)):
            for before in ("", "a", "/..a", "http", "http://ab:12", "http://a/b"):
                self.assertState(before + "?a" + text, [mode, 6, 0, 0, 0, 0, 0])
                self.assertState(before + "?a=b&" + text, [mode, 6, 0, 0, 0, 0, 0])
                self.assertState(before + "?a=" + text, [mode, 7, 0, 0, 0, 0, 0])
                self.assertState(before + "?=%41" + text, [mode, 7, 0, 0, 0, 0, 0])
                self.assertState(before + "#" + text, [mode, 8, 0, 0, 0, 0, 0])
                self.assertState(before + "?a=b#." + text, [mode, 8, 0, 0, 0, 0, 0])

    def test_the_end_plays_no_part(self):
        for text in (".", "..", "a/.", signs(mark(0), "."), "http:", "http:/", "http://", "http://a.", "http://a:",
                     "%", "%4", "?%", "?=%4", "#%"):
            with self.subTest(text=text):
                self.assertEqual(run(load(text))[0][0::2], [1, len(text)])
                self.assertEqual(run(state(text))[0][0], 0)

    def test_faults(self):
        for text, kind, place in (("a:b", 1, 1), ("http:/a", 1, 6), ("http://A", 1, 7), ("http://a:0", 2, 9),
                                  ("http://" + LABEL + "a", 2, 70), ("http://a:65536", 2, 13), ("a/../b", 3, 4),
                                  ("./", 3, 1), ("//", 4, 1), (signs(mark(0), "/"), 4, 1), ("a%4g", 1, 3),
                                  ("%%", 1, 1), ("a#b#c", 1, 3), (signs("http://", mark(0)), 5, 7),
                                  (signs("%", mark(0)), 5, 1), ("a" * 2047 + ":", 1, 2047)):
            with self.subTest(text=text):
                self.assertKept(HELD, state(text), [1, kind, place])

    def test_the_held_link_stays(self):
        self.assertKept(HELD, state("a/b"), [0, 0, 0, 0, 9, 3, 0, 0])
        self.assertKept([], state("%"), [0, 9, 0, 1, 9, 0, 0, 0])

    def test_the_longest_text(self):
        self.assertState("a" * 2048, [0, 0, 1, 9, 3, 0, 0])
        self.assertAnswer(state("a" * 2049), [-2])


class Meet(LinkCase):
    def assertMeet(self, texts, truth):
        for first in texts:
            for second in texts:
                self.assertAnswer(meet(first, second), [0, 1 if truth or first == second else 0])

    def test_equal_states(self):
        self.assertMeet(("a", "ab", "/a", "/http", "%41", signs(mark(0), "a"), "...", "httpx"), True)
        self.assertMeet(("a/", "/a/", "a//", "http://h/", "http://h:7//", signs("a/", mark(0))), True)
        self.assertMeet(("?", "a?b", "/?a=b&", "http://h?", "?a&b"), True)
        self.assertMeet(("?=", "a?b=c", "https://h:1?=%41"), True)
        self.assertMeet(("#", "a#b", "http://h/x?y#z"), True)
        self.assertMeet(("http:", "https:"), True)
        self.assertMeet(("http://", "https://", "http://abc."), True)
        self.assertMeet(("http://ab", "https://x.yz"), True)
        self.assertMeet(("?%", "a?b%", "?a=b&%"), True)
        self.assertMeet(("http://a:80", "https://b.c:80"), True)

    def test_unequal_states(self):
        self.assertMeet(("", "h", "ht", "htt", "http", "https", "a", "/", "a/", ".", "..", "a/.", "a/..", "a/b",
                         "%", "%4", "h%", "a/%", ".%", "http:", "http:/", "http://", "http://a", "http://ab",
                         "http://a:", "http://a:1", "http://a:11", "?", "?=", "#", "?%", "?=%", "#%", "?%4", "?=%4",
                         "#%4"), False)

    def test_a_fault_in_the_first(self):
        self.assertKept(HELD, meet("a:", "b"), [1, 0, 1, 1])
        self.assertKept(HELD, meet("a/../", "b"), [1, 0, 3, 4])
        self.assertKept(HELD, meet(signs("http://", mark(0)), ""), [1, 0, 5, 7])

    def test_a_fault_in_the_second(self):
        self.assertKept(HELD, meet("b", "a:"), [1, 1, 1, 1])
        self.assertKept(HELD, meet("", "//"), [1, 1, 4, 1])
        self.assertKept(HELD, meet("%", "http://a:0"), [1, 1, 2, 9])

    def test_a_fault_in_both(self):
        self.assertKept(HELD, meet("abc:", "//"), [1, 0, 1, 3])
        self.assertKept(HELD, meet("//", "abc:"), [1, 0, 4, 1])
        self.assertKept(HELD, meet(":", ":"), [1, 0, 1, 0])

    def test_their_ends_play_no_part(self):
        self.assertAnswer(meet("/.", "/."), [0, 1])
        self.assertAnswer(meet("%", "http:"), [0, 0])
        self.assertAnswer(meet("http://", "https://a."), [0, 1])

    def test_the_held_link_stays(self):
        self.assertKept(HELD, meet("a", "b"), [0, 1])
        self.assertKept(HELD, meet("a", "/"), [0, 0])


def mode_of(text):
    """The mode behind the text, or the one before the % in an unfinished percent form."""
    if "#" in text:
        return 8
    if "?" in text:
        return 7 if "=" in text.split("?")[1].split("&")[-1] else 6
    whole = re.match("https?:(/?)(/?)(.*)", text)
    if not whole or "/" in whole[3]:
        return 0
    if not whole[2]:
        return 2 if whole[1] else 1
    return 4 if ":" in whole[3] else 3


def segment_numbers(text, finished):
    path = finished.removeprefix("/")
    first = int("/" not in path)
    scheme = len(text) if "https".startswith(text) else 9
    written = MARK.sub("", path.split("/")[-1])
    return [first, scheme, {"": 0, ".": 1, "..": 2}.get(written, 3)]


def expected_state(text):
    """The seven numbers, out of the text as a whole."""
    mode = mode_of(text)
    unfinished = re.search("%[0-9a-fA-F]?$", text)
    numbers = [mode, 0]
    if unfinished:
        numbers = [8 + len(unfinished[0]), mode]
    finished = text[:unfinished.start()] if unfinished else text
    numbers += segment_numbers(text, finished) if mode == 0 else [0, 0, 0]
    numbers.append(len(re.split("[/.]", text)[-1]) if mode == 3 else 0)
    numbers.append(int(text.split(":")[2] or 0) if mode == 4 else 0)
    return numbers


def expected_marks(text):
    found = []
    for place, letter in enumerate(text):
        if MARK.match(letter):
            found += [ord(letter) - 256, {0: 0, 6: 1, 7: 2, 8: 3}[mode_of(text[:place])]]
    return found


class ShortTexts(unittest.TestCase):
    """States and marks of short texts one by one, told here a second time."""

    def check(self, texts):
        for bundle in in_bundles(texts, 100):
            calls = [make(text) for text in bundle for make in (load, state, marks)]
            found = run(*calls)
            for turn, text in enumerate(bundle):
                self.check_one(text, *found[3 * turn:3 * turn + 3])

    def check_one(self, text, loaded, behind, marked):
        if can_go_on(text):
            self.assertEqual(behind, [0] + expected_state(text), repr(text))
        else:
            self.assertEqual(behind, loaded, repr(text))
        if is_link(text):
            self.assertEqual(marked, [0] + expected_marks(text), repr(text))
        else:
            self.assertEqual(marked, loaded, repr(text))

    def test_from_the_beginning(self):
        self.check(texts_of("", "a./?#:\u0100%", 4))
        self.check(texts_of("", "ht.%4/", 5))

    def test_in_a_query(self):
        self.check(texts_of("a?", "a&=#%\u0101", 5))

    def test_in_a_fragment(self):
        self.check(texts_of("#", "a.#%\u0101", 4))

    def test_behind_http(self):
        self.check(texts_of("http", "s:/a.%", 5))

    def test_in_a_host(self):
        self.check(texts_of("http://", "a.:/?#6\u0100", 4))

    def test_in_a_port(self):
        self.check(texts_of("https://a:", "0156/", 6))

    def test_in_a_whole_link(self):
        self.check(texts_of("http://a/", "./a%?\u0100", 4))


class SameStates(unittest.TestCase):
    """Texts that meet take the same signs behind them."""

    def test_what_can_stand_behind(self):
        texts = [text for text in texts_of("", "h./%?\u0100", 3) if can_go_on(text)]
        texts += ["http", "https", "http:", "https:", "http://", "https://a.", "http://a", "http://a:6553"]
        by_state = {}
        for bundle in in_bundles(texts, 400):
            for text, answer in zip(bundle, run(*[state(text) for text in bundle])):
                by_state.setdefault(tuple(answer), []).append(text)
        for same in by_state.values():
            for text in same[1:]:
                self.assertEqual(run(meet(same[0], text)), [[0, 1]], (same[0], text))
                for behind in ("", "a", ".", "/", "/a", ":", "6", "?a", "#", "=", "&", "aa", "\u0100"):
                    self.assertEqual(is_link(same[0] + behind), is_link(text + behind), (same[0], text, behind))
