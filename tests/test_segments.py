"""Promises 8 to 10: change, push, pop, and good trees."""

from tests.calling import HUGE, LinkCase, change, load, mark, pop, push, run, signs, tree


class Change(LinkCase):
    def test_each_segment(self):
        self.assertHeld([load("a/b/c?q#f"), change(0, "x")], [0], "x/b/c?q#f")
        self.assertHeld([load("a/b/c?q#f"), change(1, "x")], [0], "a/x/c?q#f")
        self.assertHeld([load("a/b/c?q#f"), change(2, "")], [0], "a/b/?q#f")

    def test_the_text_is_a_content(self):
        self.assertHeld([load("/a/b"), change(1, "x/y?%41:")], [0], "/a/x%2Fy%3F%2541%3A")
        self.assertHeld([change(0, mark(0))], [0], mark(0))
        self.assertHeld([change(0, "http:")], [0], "http%3A")

    def test_a_segment_that_is_not_there(self):
        for i in (-HUGE, -2, -1, 2, 3, HUGE):
            with self.subTest(i=i):
                self.assertKept([load("a/b")], change(i, "x"), [-3])
        self.assertKept([], change(1, "x"), [-3])
        self.assertKept([load("/")], change(1, "x"), [-3])

    def test_a_whole_link_without_segments(self):
        self.assertKept([load("http://a")], change(0, "x"), [-3])
        self.assertKept([load("http://a")], change(-1, "x"), [-3])

    def test_a_whole_link(self):
        self.assertHeld([load("https://a:1/b/c"), change(0, "")], [0], "https://a:1//c")
        self.assertHeld([load("https://a:1/b/c"), change(0, mark(0))], [0], signs("https://a:1/", mark(0), "/c"))

    def test_a_tree_that_is_not_good(self):
        for text in ("a/b", "/a/b"):
            for segment in ("", mark(0), mark(0) + mark(65279)):
                with self.subTest(text=text, segment=segment):
                    self.assertKept([load(text)], change(0, segment), [-5])

    def test_trees_that_are_good(self):
        self.assertHeld([load("a"), change(0, "")], [0], "")
        self.assertHeld([load("/a"), change(0, mark(0))], [0], signs("/", mark(0)))
        self.assertHeld([load("a/b"), change(1, mark(0))], [0], signs("a/", mark(0)))
        self.assertHeld([load("a/b"), change(0, signs(mark(0), [255]))], [0], signs(mark(0), "%FF/b"))
        self.assertHeld([load("a/b"), change(0, ".")], [0], "%2E/b")
        self.assertHeld([load("a/b"), change(0, [0])], [0], "%00/b")


class Push(LinkCase):
    def test_behind_the_last_segment(self):
        self.assertHeld([load("a?q#f"), push("b"), push("")], [0], "a/b/?q#f")
        self.assertHeld([load("/a/"), push("b")], [0], "/a//b")
        self.assertHeld([load("https://a:1"), push("b")], [0], "https://a:1/b")
        self.assertHeld([load("http://a/"), push("b")], [0], "http://a//b")

    def test_the_text_is_a_content(self):
        self.assertHeld([load("a"), push("b/c%41")], [0], "a/b%2Fc%2541")
        self.assertEqual(run(load("a"), push("/"), tree())[-1], [0, 0, 2, 1, 97, 1, 47, 0, 0])

    def test_a_tree_that_is_not_good(self):
        self.assertKept([], push("a"), [-5])
        self.assertKept([], push(""), [-5])
        self.assertKept([load("/")], push("a"), [-5])
        self.assertKept([load(mark(0))], push("a"), [-5])
        self.assertKept([load(signs("/", mark(0), mark(1), "?q"))], push("a"), [-5])

    def test_trees_that_are_good(self):
        self.assertHeld([load(signs(mark(0), "a")), push(mark(1))], [0], signs(mark(0), "a/", mark(1)))
        self.assertHeld([load(signs("http://a/", mark(0))), push("")], [0], signs("http://a/", mark(0), "/"))


class Pop(LinkCase):
    def test_the_last_segment(self):
        self.assertHeld([load("a/bc?q#f"), pop()], [0] + signs("bc"), "a?q#f")
        self.assertHeld([load("/a//"), pop()], [0], "/a/")
        self.assertHeld([load("/a//"), pop(), pop()], [0], "/a")

    def test_the_segment_is_told_by_its_content(self):
        self.assertHeld([load(signs("a/%2f%41", mark(5))), pop()], [0, 47, 65, 261], "a")

    def test_the_last_segment_of_a_whole_link(self):
        self.assertHeld([load("https://a:1/b?q"), pop()], [0, 98], "https://a:1?q")
        self.assertHeld([load("http://a/"), pop()], [0], "http://a")
        self.assertHeld([load("http://a//b"), pop()], [0, 98], "http://a/")

    def test_no_segment_to_take_out(self):
        self.assertKept([], pop(), [-3])
        self.assertKept([load("a?q#f")], pop(), [-3])
        self.assertKept([load("/")], pop(), [-3])
        self.assertKept([load("/a")], pop(), [-3])
        self.assertKept([load("http://a")], pop(), [-3])
        self.assertKept([load("http://a/b"), pop()], pop(), [-3])
        self.assertKept([load("a/b"), pop()], pop(), [-3])

    def test_push_and_pop(self):
        self.assertHeld([load("a"), push("b"), push("c"), pop(), push("d")], [0], "a/b/d")
