"""Promise 3: tree, the flat form."""

from tests.calling import LinkCase, add, load, mark, pop, run, signs, tree


class Tree(LinkCase):
    def test_a_new_object(self):
        self.assertEqual(run(tree()), [[0, 0, 1, 0, 0, 0]])

    def test_paths(self):
        self.assertTree("", [0, 1, 0, 0, 0])
        self.assertTree("/", [1, 1, 0, 0, 0])
        self.assertTree("a", [0, 1, 1, 97, 0, 0])
        self.assertTree("/a", [1, 1, 1, 97, 0, 0])
        self.assertTree("a//b", [0, 3, 1, 97, 0, 1, 98, 0, 0])
        self.assertTree("/ab/c/", [1, 3, 2, 97, 98, 1, 99, 0, 0, 0])

    def test_whole_links(self):
        self.assertTree("http://a", [2, 0, 1, 1, 97, 0, 0, 0, 0])
        self.assertTree("http://a/", [2, 0, 1, 1, 97, 0, 1, 0, 0, 0])
        self.assertTree("https://a", [2, 1, 1, 1, 97, 0, 0, 0, 0])
        self.assertTree("https://a.b-1:65535/c", [2, 1, 2, 1, 97, 3, 98, 45, 49, 65535, 1, 1, 99, 0, 0])
        self.assertTree("http://a:80//", [2, 0, 1, 1, 97, 80, 2, 0, 0, 0, 0])
        self.assertTree("http://a:1?#", [2, 0, 1, 1, 97, 1, 0, 1, 1, 0, 0, 1, 0])

    def test_labels_of_schemes(self):
        self.assertTree("http://s", [2, 0, 1, 1, 115, 0, 0, 0, 0])
        self.assertTree("http://https", [2, 0, 1, 5] + signs("https") + [0, 0, 0, 0])

    def test_queries(self):
        self.assertTree("?", [0, 1, 0, 1, 1, 0, 0, 0])
        self.assertTree("?&", [0, 1, 0, 1, 2, 0, 0, 0, 0, 0])
        self.assertTree("?a", [0, 1, 0, 1, 1, 1, 97, 0, 0])
        self.assertTree("?a=", [0, 1, 0, 1, 1, 1, 97, 1, 0, 0])
        self.assertTree("?=a", [0, 1, 0, 1, 1, 0, 1, 1, 97, 0])
        self.assertTree("?a=b&c&=", [0, 1, 0, 1, 3, 1, 97, 1, 1, 98, 1, 99, 0, 0, 1, 0, 0])

    def test_fragments(self):
        self.assertTree("#", [0, 1, 0, 0, 1, 0])
        self.assertTree("a#bc", [0, 1, 1, 97, 0, 1, 2, 98, 99])
        self.assertTree("?#", [0, 1, 0, 1, 1, 0, 0, 1, 0])

    def test_percent_forms_are_told_as_bytes(self):
        self.assertTree("%2F%3a%fF", [0, 1, 3, 47, 58, 255, 0, 0])
        self.assertTree("?%26=%3d#%00", [0, 1, 0, 1, 1, 1, 38, 1, 1, 61, 1, 1, 0])
        self.assertTree("%2541", [0, 1, 3, 37, 52, 49, 0, 0])

    def test_marks_are_told_as_they_are(self):
        text = signs("a", mark(7), "?", mark(0), "=", mark(1), "#", mark(65279))
        self.assertTree(text, [0, 1, 2, 97, 263, 1, 1, 1, 256, 1, 1, 257, 1, 1, 65535])

    def test_a_link_that_was_changed(self):
        calls = [load("http://a/b"), pop(), add("/", [300]), tree()]
        self.assertEqual(run(*calls)[-1], [0, 2, 0, 1, 1, 97, 0, 0, 1, 1, 1, 47, 1, 1, 300, 0])

    def test_tree_changes_nothing(self):
        self.assertKept([load("a?b#c")], tree(), [0, 0, 1, 1, 97, 1, 1, 1, 98, 0, 1, 1, 99])
