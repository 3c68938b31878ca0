"""Promise 13: follow."""

import itertools
import re

from tests.calling import LinkCase, add, change, follow, fragment, load, mark, pop, push, run, signs, tree, write, written

BASES = ("", "a", "a/b", "a/b/", "a//", "/", "/a", "/a/b", "/a/", "/a//b", "http://h", "http://h/", "http://h/a",
         "https://h:7/a/b", "https://g.h/a/", "http://h//", "http://h//a")
TAILS = ("", "?", "?q=r&s", "#", "#f", "?q#f")
TEXTS = ("", "x", "x/y", "x/", "x//", "/", "/x", "/x/y/", "/x//", "http://n", "https://n:9/", "http://n/x/y")


def expected_form(base, text):
    """The one form of what is left, out of the one forms of both, as texts are cut and put together."""
    if re.match("https?:", text):
        return text
    path = re.split("[?#]", base)[0]
    origin = re.match("(https?://[^/]*)?", path)[0]
    if text.startswith("/"):
        return origin + text
    rest = path[len(origin):]
    if origin and not rest:
        return origin + "/" + text
    return origin + rest[:rest.rfind("/") + 1] + text


class Follow(LinkCase):
    def assertFollows(self, base, text, form):
        self.assertHeld([load(base), follow(text)], [0], form)

    def test_a_whole_text(self):
        for base in BASES:
            self.assertFollows(base + "?q#f", "https://n:9/x?y#z", "https://n:9/x?y#z")
            self.assertFollows(base + "?q#f", "http://n", "http://n")

    def test_a_rooted_text(self):
        self.assertFollows("a/b?q#f", "/x/y", "/x/y")
        self.assertFollows("/a/b?q#f", "/x?r", "/x?r")
        self.assertFollows("https://h.i:7/a/b?q#f", "/x#g", "https://h.i:7/x#g")
        self.assertFollows("http://h", "/", "http://h/")
        self.assertFollows("http://h?q", "/x", "http://h/x")

    def test_a_relative_text(self):
        self.assertFollows("a/b?q#f", "x/y", "a/x/y")
        self.assertFollows("a", "x", "x")
        self.assertFollows("/a/b", "x", "/a/x")
        self.assertFollows("/a", "x/y", "/x/y")
        self.assertFollows("/", "x", "/x")
        self.assertFollows("https://h.i:7/a/b?q#f", "x", "https://h.i:7/a/x")
        self.assertFollows("http://h/a", "x", "http://h/x")

    def test_a_relative_text_from_a_whole_link_without_segments(self):
        self.assertFollows("http://h", "x/y", "http://h/x/y")
        self.assertFollows("https://h:7?q#f", "", "https://h:7/")
        self.assertFollows("https://h:7?q#f", "?r", "https://h:7/?r")
        self.assertFollows("http://h", mark(0), signs("http://h/", mark(0)))

    def test_the_empty_text(self):
        self.assertFollows("a/b?q#f", "", "a/")
        self.assertFollows("a?q#f", "", "")
        self.assertFollows("/a?q#f", "", "/")
        self.assertFollows("http://h/a?q#f", "", "http://h/")
        self.assertFollows("", "", "")

    def test_query_and_fragment_are_the_texts(self):
        self.assertFollows("a/b?q=r#f", "x", "a/x")
        self.assertFollows("a/b?q=r#f", "?", "a/?")
        self.assertFollows("a/b?q=r#f", "#", "a/#")
        self.assertFollows("a/b", "x?s=t&u#g", "a/x?s=t&u#g")
        self.assertFollows("http://h/a?q#f", "/x?s", "http://h/x?s")
        self.assertFollows("http://h/a?q#f", "/x#g", "http://h/x#g")

    def test_every_sort_from_every_sort(self):
        for base, base_tail, text, tail in itertools.product(BASES, TAILS, TEXTS, TAILS):
            form = expected_form(base + base_tail, text + tail)
            found = run(load(base + base_tail), follow(text + tail), written(), tree(), load(form), tree())
            self.assertEqual(found[1:3], [[0], [0] + signs(form)], (base + base_tail, text + tail))
            self.assertEqual(found[3], found[5], (base + base_tail, text + tail))

    def test_contents_are_read(self):
        self.assertFollows("a/b", "%41%2e%2f/%2E", "a/A.%2F/%2E")
        self.assertEqual(run(load("/a/b"), follow("%2F?%3d=%26#%00"), tree())[-1],
                         [0, 1, 2, 1, 97, 1, 47, 1, 1, 1, 61, 1, 1, 38, 1, 1, 0])

    def test_marks(self):
        text = signs(mark(0), "?", mark(1), "=", mark(2), "#", mark(3))
        self.assertFollows(signs("a", mark(9), "/", mark(8)), text, signs("a", mark(9), "/", text))
        self.assertFollows(mark(9), text, text)

    def test_one_after_the_other(self):
        self.assertHeld([load("http://h"), follow("a/b/c"), follow("d/"), follow("e?q"), follow("#f")], [0],
                        "http://h/a/b/d/#f")
        self.assertHeld([follow("a/b"), follow("/c"), follow("d"), follow("https://h"), follow("e")], [0], "https://h/e")

    def test_from_a_link_that_was_changed(self):
        self.assertHeld([load("a/b"), change(1, "/"), push(".."), push("x"), follow("y")], [0], "a/%2F/%2E%2E/y")
        self.assertHeld([load("http://h/a"), pop(), fragment(1, "f"), follow("y")], [0], "http://h/y")

    def test_what_is_left_can_be_changed(self):
        self.assertHeld([load("http://h/a"), follow("b?c"), push("d"), add("e", "f")], [0], "http://h/b/d?c&e=f")
        self.assertHeld([load("a/b/c"), follow("x"), pop(), pop()], [0, 98], "a")

    def test_faults(self):
        rows = (("a:b", 1, 1), ("http://a:0", 2, 9), ("..", 3, 2), ("../x", 3, 2), ("//a", 4, 1),
                (signs("http:", mark(0)), 5, 5), ("%", 6, 1), ("http://", 6, 7), ("a" * 2047 + "%", 6, 2048))
        for base in ("", "a/b?c#d", "/a", "http://h", "https://h:7/x?y=z#f"):
            for text, kind, place in rows:
                with self.subTest(base=base, kind=kind, place=place):
                    self.assertKept([load(base)], follow(text), [1, kind, place])


class Bounds(LinkCase):
    # With the x taken out, a one form of 9 + 3 * 2048 signs and the next slash stay ahead of the text.
    BEFORE = [load("http://h"), push([0] * 2048), push("x")]

    def assertLength(self, calls, length):
        self.assertEqual(len(run(*calls, written())[-1]) - 1, length)

    def test_the_longest_link(self):
        self.assertLength(self.BEFORE + [follow("a" * 2038)], 8192)
        self.assertKept(self.BEFORE, follow("a" * 2039), [-6])
        self.assertKept(self.BEFORE, follow("a" * 2048), [-6])

    def test_query_and_fragment_count(self):
        self.assertLength(self.BEFORE + [follow("a" * 1000 + "?" + "b" * 500 + "=#" + "c" * 535)], 8192)
        self.assertKept(self.BEFORE, follow("a" * 1000 + "?" + "b" * 500 + "=#" + "c" * 536), [-6])

    def test_the_one_form_is_measured(self):
        # Three signs that become one, and one dot that becomes three signs.
        self.assertLength(self.BEFORE + [follow("a" * 2037 + "%61")], 8192)
        self.assertLength(self.BEFORE + [follow("a" * 2031 + "/.%2e")], 8192)
        self.assertKept(self.BEFORE, follow("a" * 2032 + "/.%2e"), [-6])
        self.assertEqual(len("a" * 2032 + "/.%2e"), 2037)

    def test_what_goes_does_not_count(self):
        long_last = [load("http://h/a"), push([0] * 2048), add("n", "b" * 2028), fragment(1, "ccccc")]
        self.assertLength(long_last, 8192)
        self.assertHeld(long_last + [follow("a" * 2048)], [0], "http://h/a/" + "a" * 2048)
        self.assertHeld(self.BEFORE + [follow("/" + "a" * 2047)], [0], "http://h/" + "a" * 2047)
        self.assertHeld(self.BEFORE + [follow("http://" + "a." * 1020 + "a")], [0], "http://" + "a." * 1020 + "a")

    def test_a_fault_goes_before_out_of_bounds(self):
        self.assertKept(self.BEFORE, follow("a" * 2040 + ":"), [1, 1, 2040])
        self.assertKept(self.BEFORE, follow("a" * 2047 + "%"), [1, 6, 2048])

    def test_the_longest_that_a_whole_text_can_leave(self):
        text = "http://a" + "/.%2E" * 408
        self.assertEqual(len(text), 2048)
        self.assertLength([follow(text)], 8 + 7 * 408)
        self.assertEqual(run(write(text))[0], run(follow(text), written())[1])
