"""Promises 14 to 16: read, write, marks."""

from tests.calling import LinkCase, load, mark, marks, read, run, signs, tree, write, written

HELD = [load("https://h:7/x/%2E?y=z&y#f")]
GOOD = ("", "/", "a", "/a", "a//b", "/a/", "http", "http://a", "http://a/", "https://a.b-1:65535/c//?d=e&f&=#g",
        "?", "?&", "?a", "?a=", "?=a", "#", "?#", "...", ".a", "%2E", "%2e%2e/.%2E", "%41%2f?%26=%3d#%00", "?.=..#.",
        mark(0), signs("a", mark(7), "/", mark(0), "?", mark(1), "=", mark(65279), "&", mark(2), "#", mark(3)),
        signs("%2e", mark(0), "%2e"), "a" * 2048)
BAD = (("a:b", 1, 1), ("http:/a", 1, 6), ("http://", 6, 7), ("http://A", 1, 7), ("http://a:0", 2, 9),
       ("http://a:65536", 2, 13), ("a/../b", 3, 4), ("a/.", 3, 3), ("//a", 4, 1), ("a%4", 6, 3), ("a%4g", 1, 3),
       ("a?b=c=d", 1, 5), ("a#b#c", 1, 3), (signs(mark(0), "/a"), 4, 1), (signs("http://", mark(0)), 5, 7),
       (signs("%", mark(0)), 5, 1), (signs(mark(0), "."), 3, 2), ([0], 1, 0), ("a" * 2047 + "%", 6, 2048))


class Faults(LinkCase):
    def test_each_fault(self):
        for text, kind, place in BAD:
            for make in (read, write, marks):
                with self.subTest(call=make.__name__, text=text):
                    self.assertKept(HELD, make(text), [1, kind, place])


class Read(LinkCase):
    def test_trees(self):
        self.assertAnswer(read(""), [0, 0, 1, 0, 0, 0])
        self.assertAnswer(read("/a//?b=&c#d"),
                          [0, 1, 3, 1, 97, 0, 0, 1, 2, 1, 98, 1, 0, 1, 99, 0, 1, 1, 100])
        self.assertAnswer(read("https://a.bc:80"), [0, 2, 1, 2, 1, 97, 2, 98, 99, 80, 0, 0, 0])
        self.assertAnswer(read("http://a/"), [0, 2, 0, 1, 1, 97, 0, 1, 0, 0, 0])
        self.assertAnswer(read(signs("%2e", mark(0), "#%fF")), [0, 0, 1, 2, 46, 256, 0, 1, 1, 255])

    def test_as_load_and_tree(self):
        for text in GOOD:
            with self.subTest(text=text):
                self.assertKept(HELD, read(text), run(load(text), tree())[1])


class Write(LinkCase):
    def test_forms(self):
        self.assertAnswer(write(""), [0])
        self.assertAnswer(write("%61%2f/%2e%2E?%3d=%7e#%7f."), [0] + signs("a%2F/%2E%2E?%3D=~#%7F."))
        self.assertAnswer(write("https://a:1/%2ea"), [0] + signs("https://a:1/.a"))
        self.assertAnswer(write(signs(mark(0), "%2e", mark(1))), [0] + signs(mark(0), "%2E", mark(1)))

    def test_as_load_and_written(self):
        for text in GOOD:
            with self.subTest(text=text):
                self.assertKept(HELD, write(text), run(load(text), written())[1])

    def test_the_one_form_is_read_as_the_same_tree(self):
        for text in GOOD:
            form = run(write(text))[0][1:]
            self.assertEqual(run(read(form), write(form)), run(read(text), write(text)), text)

    def test_a_form_longer_than_a_text_may_be(self):
        text = "a" + "/.%2E" * 409
        self.assertEqual(len(text), 2046)
        self.assertAnswer(write(text), [0] + signs("a" + "/%2E%2E" * 409))


class Marks(LinkCase):
    def test_without_marks(self):
        for text in ("", "a", "https://a:1/b?c=d#e", "%41"):
            self.assertAnswer(marks(text), [0])

    def test_each_place(self):
        self.assertAnswer(marks(mark(5)), [0, 5, 0])
        self.assertAnswer(marks(signs("?", mark(5))), [0, 5, 1])
        self.assertAnswer(marks(signs("?=", mark(5))), [0, 5, 2])
        self.assertAnswer(marks(signs("#", mark(5))), [0, 5, 3])
        self.assertAnswer(marks(signs("http://a/", mark(5))), [0, 5, 0])
        self.assertAnswer(marks(signs("/", mark(5))), [0, 5, 0])
        self.assertAnswer(marks(signs("?a=b&", mark(5))), [0, 5, 1])

    def test_the_texts_order(self):
        text = signs("a", mark(9), "/", mark(2), mark(2), "?", mark(7), "=", mark(1), "x", mark(0), "&", mark(3), "&=",
                     mark(8), "#", mark(4), mark(0))
        self.assertAnswer(marks(text), [0, 9, 0, 2, 0, 2, 0, 7, 1, 1, 2, 0, 2, 3, 1, 8, 2, 4, 3, 0, 3])

    def test_behind_percent_forms(self):
        text = signs("%41", mark(0), "?%41", mark(1), "=%41", mark(2), "#%41", mark(3))
        self.assertAnswer(marks(text), [0, 0, 0, 1, 1, 2, 2, 3, 3])

    def test_least_and_greatest(self):
        self.assertAnswer(marks([256, 65535]), [0, 0, 0, 65279, 0])
        self.assertAnswer(marks([65536]), [-1])

    def test_as_many_as_a_text_can_have(self):
        self.assertAnswer(marks([300] * 2048), [0] + [44, 0] * 2048)
        self.assertAnswer(marks([63] + [300] * 2047), [0] + [44, 1] * 2047)

    def test_the_held_link_stays(self):
        for text in GOOD:
            self.assertKept(HELD, marks(text), run(marks(text))[0])
