"""Promises 4 to 7 and 11: get, set, add, drop, cutquery."""

from tests.calling import LinkCase, add, cutquery, drop, get, load, mark, run, set_, signs, tree


class Get(LinkCase):
    def assertGot(self, text, name, answer):
        self.assertEqual(run(load(text), get(name))[1], answer)

    def test_without_a_query(self):
        self.assertEqual(run(get("a")), [[0, 0]])
        self.assertEqual(run(get("")), [[0, 0]])
        self.assertGot("http://a/b#c", "b", [0, 0])

    def test_each_value_in_order(self):
        self.assertGot("?a=x&b=y&a&a=&a=zz", "a", [0, 4, 1, 1, 120, 0, 1, 0, 1, 2, 122, 122])
        self.assertGot("?a=x&b=y&a&a=&a=zz", "b", [0, 1, 1, 1, 121])
        self.assertGot("?a=x&b=y", "c", [0, 0])

    def test_the_empty_name(self):
        self.assertGot("?", "", [0, 1, 0])
        self.assertGot("?=a&b&", "", [0, 2, 1, 1, 97, 0])

    def test_names_are_the_same_lists_of_signs(self):
        self.assertGot("?ab=1&a=2&A=3&ba=4", "a", [0, 1, 1, 1, 50])
        self.assertGot("?%61=1&a=2", "a", [0, 2, 1, 1, 49, 1, 1, 50])
        self.assertGot("?%2561=1", "%61", [0, 1, 1, 1, 49])
        self.assertGot("?%61=1", "%61", [0, 0])

    def test_marks_in_names_and_values(self):
        text = signs("?", mark(0), "=", mark(1), "&", mark(1), "=x&", mark(0), "a")
        self.assertGot(text, mark(0), [0, 1, 1, 1, 257])
        self.assertGot(text, mark(1), [0, 1, 1, 1, 120])
        self.assertGot(text, signs(mark(0), "a"), [0, 1, 0])

    def test_get_changes_nothing(self):
        self.assertKept([load("?a=x&a")], get("a"), [0, 2, 1, 1, 120, 0])


class Set(LinkCase):
    def test_without_a_query(self):
        self.assertHeld([set_("a", "b")], [0], "?a=b")
        self.assertHeld([load("http://a#f"), set_("", "")], [0], "http://a?=#f")

    def test_a_new_name_comes_last(self):
        self.assertHeld([load("?a=x&b"), set_("c", "y")], [0], "?a=x&b&c=y")
        self.assertHeld([load("?"), set_("c", "y")], [0], "?&c=y")

    def test_the_first_part_gets_the_value_where_it_stands(self):
        self.assertHeld([load("?x&a=1&y&z=2"), set_("a", "new")], [0], "?x&a=new&y&z=2")

    def test_a_part_without_a_value_has_one_from_now_on(self):
        self.assertHeld([load("?a&b"), set_("a", "")], [0], "?a=&b")
        self.assertEqual(run(load("?a"), set_("a", ""), tree())[-1], [0, 0, 1, 0, 1, 1, 1, 97, 1, 0, 0])

    def test_all_later_parts_of_the_name_are_taken_out(self):
        self.assertHeld([load("?a&b=1&a=2&c&a=3&a&b"), set_("a", "z")], [0], "?a=z&b=1&c&b")
        self.assertHeld([load("?&&x&"), set_("", "z")], [0], "?=z&x")

    def test_names_are_told_by_their_content(self):
        self.assertHeld([load("?%61=1&A=2"), set_("a", "z")], [0], "?a=z&A=2")
        self.assertHeld([load("?%61=1"), set_("%61", "z")], [0], "?a=1&%2561=z")

    def test_all_else_stays(self):
        self.assertHeld([load("https://a:1/b?c=d#e"), set_("c", mark(3))], [0],
                        signs("https://a:1/b?c=", mark(3), "#e"))


class Add(LinkCase):
    def test_without_a_query(self):
        self.assertHeld([add("a", "b")], [0], "?a=b")
        self.assertHeld([load("/x#f"), add("", "")], [0], "/x?=#f")

    def test_behind_the_last_part(self):
        self.assertHeld([load("?a=1&b"), add("a", "2")], [0], "?a=1&b&a=2")
        self.assertHeld([load("?"), add("a", "")], [0], "?&a=")
        self.assertHeld([add("a", "1"), add("a", "1"), add("b", "#")], [0], "?a=1&a=1&b=%23")

    def test_all_else_stays(self):
        self.assertHeld([load("https://a:1/b?c#e"), add("d", mark(3))], [0],
                        signs("https://a:1/b?c&d=", mark(3), "#e"))


class Drop(LinkCase):
    def test_without_a_query(self):
        self.assertHeld([drop("a")], [0, 0], "")
        self.assertHeld([load("http://a#b"), drop("")], [0, 0], "http://a#b")

    def test_all_parts_of_the_name_are_taken_out(self):
        self.assertHeld([load("/p?a&b=1&a=2&c&%61=3#f"), drop("a")], [0, 3], "/p?b=1&c#f")

    def test_a_name_that_is_not_there(self):
        self.assertHeld([load("?a&b"), drop("c")], [0, 0], "?a&b")
        self.assertHeld([load("?a&b"), drop("")], [0, 0], "?a&b")
        self.assertHeld([load("?%61"), drop("%61")], [0, 0], "?a")

    def test_with_no_part_left_there_is_no_query(self):
        self.assertHeld([load("x?a&a=1#f"), drop("a")], [0, 2], "x#f")
        self.assertHeld([load("?"), drop("")], [0, 1], "")
        self.assertEqual(run(load("?a"), drop("a"), tree(), get("a"))[-2:], [[0, 0, 1, 0, 0, 0], [0, 0]])

    def test_the_query_comes_back_with_the_next_part(self):
        self.assertHeld([load("?a"), drop("a"), add("b", "c")], [0], "?b=c")


class Cutquery(LinkCase):
    def test_there_is_no_query_from_now_on(self):
        self.assertHeld([load("https://a:1/b?c=d&e#f"), cutquery()], [0], "https://a:1/b#f")
        self.assertHeld([load("?"), cutquery()], [0], "")
        self.assertEqual(run(load("?a"), cutquery(), tree(), get("a"))[-2:], [[0, 0, 1, 0, 0, 0], [0, 0]])

    def test_without_a_query(self):
        self.assertHeld([cutquery()], [0], "")
        self.assertHeld([load("/a#b"), cutquery(), cutquery()], [0], "/a#b")
