"""Promise 12: fragment."""

from tests.calling import HUGE, LinkCase, add, cutquery, fragment, load, mark, run, signs, tree, written


class Fragment(LinkCase):
    def test_the_text_is_the_fragment_from_now_on(self):
        self.assertHeld([fragment(1, "a")], [0], "#a")
        self.assertHeld([load("a/b?c=d"), fragment(1, "ef")], [0], "a/b?c=d#ef")
        self.assertHeld([load("http://a"), fragment(1, "b")], [0], "http://a#b")

    def test_it_takes_the_place_of_the_one_before(self):
        self.assertHeld([load("a#b"), fragment(1, "c")], [0], "a#c")
        self.assertHeld([load("a#b"), fragment(1, "c"), fragment(1, "")], [0], "a#")

    def test_an_empty_fragment_is_there(self):
        self.assertHeld([fragment(1, "")], [0], "#")
        self.assertEqual(run(fragment(1, ""), tree())[-1], [0, 0, 1, 0, 0, 1, 0])

    def test_the_text_is_a_content(self):
        self.assertHeld([fragment(1, "#/?%41 ..\xff")], [0], "#%23%2F%3F%2541%20..%FF")
        self.assertHeld([fragment(1, signs("a", mark(0), mark(65279)))], [0], signs("#a", mark(0), mark(65279)))
        self.assertEqual(run(fragment(1, "%41"), tree())[-1], [0, 0, 1, 0, 0, 1, 3, 37, 52, 49])
        self.assertHeld([fragment(1, ".")], [0], "#.")
        self.assertHeld([fragment(1, "..")], [0], "#..")

    def test_no_fragment_from_now_on(self):
        self.assertHeld([load("https://a:1/b?c#d"), fragment(0, "")], [0], "https://a:1/b?c")
        self.assertHeld([load("#"), fragment(0, "")], [0], "")
        self.assertHeld([fragment(0, "")], [0], "")
        self.assertHeld([fragment(1, "a"), fragment(0, ""), fragment(0, "")], [0], "")
        self.assertEqual(run(load("a#b"), fragment(0, ""), tree())[-1], [0, 0, 1, 1, 97, 0, 0])

    def test_without_a_fragment_the_text_plays_no_part(self):
        for text in ("x", ":#%", [0, 255, 256, 65535], "a" * 2048, [0] * 2048):
            self.assertHeld([load("a?b#c"), fragment(0, text)], [0], "a?b")

    def test_the_text_is_still_asked_the_first_refusals(self):
        for there in (0, 1, 2):
            self.assertKept([load("a#b")], fragment(there, [97, -1]), [-1])
            self.assertKept([load("a#b")], fragment(there, [65536]), [-1])
            self.assertKept([load("a#b")], fragment(there, "a" * 2049), [-2])

    def test_another_number(self):
        for there in (-HUGE, -1, 2, 3, 256, HUGE):
            with self.subTest(there=there):
                self.assertKept([load("a?b#c")], fragment(there, "x"), [-3])
                self.assertKept([], fragment(there, ""), [-3])

    def test_all_else_stays(self):
        self.assertHeld([load("https://a.b:1/c//d?e&f=g"), fragment(1, "h")], [0], "https://a.b:1/c//d?e&f=g#h")
        self.assertHeld([load("a"), fragment(1, "h"), add("b", "c")], [0], "a?b=c#h")
        self.assertHeld([load("a?b"), fragment(1, "h"), cutquery()], [0], "a#h")


class Bounds(LinkCase):
    # The one form has 1000 + 3 + 6000 signs.
    BEFORE = [load("a" * 1000), add("n", [0] * 2000)]

    def test_the_longest_link(self):
        full = self.BEFORE + [fragment(1, "a" * 1188)]
        self.assertEqual(len(run(*full, written())[-1]), 1 + 8192)
        self.assertKept(self.BEFORE, fragment(1, "a" * 1189), [-6])
        self.assertKept(full, fragment(1, "a" * 1187 + " "), [-6])

    def test_percent_forms_count_three(self):
        full = self.BEFORE + [fragment(1, [0] * 396)]
        self.assertEqual(len(run(*full, written())[-1]), 1 + 8192)
        self.assertKept(self.BEFORE, fragment(1, [0] * 396 + [97]), [-6])

    def test_the_sign_ahead_of_a_fragment_counts(self):
        full = [load("a" * 2045), add("n", [0] * 2048)]
        self.assertEqual(len(run(*full, written())[-1]), 1 + 8192)
        self.assertKept(full, fragment(1, ""), [-6])
        self.assertEqual(run(*full, fragment(0, "a" * 2048))[-1], [0])

    def test_what_it_takes_the_place_of_does_not_count(self):
        full = self.BEFORE + [fragment(1, "a" * 1188)]
        self.assertEqual(run(*full, fragment(1, "b" * 1188))[-1], [0])
        self.assertEqual(len(run(*full, fragment(0, "a"), written())[-1]), 1 + 7003)

    def test_another_number_goes_before_out_of_bounds(self):
        self.assertKept(self.BEFORE, fragment(2, "a" * 1189), [-3])
        self.assertKept(self.BEFORE, fragment(-1, "a" * 2048), [-3])
