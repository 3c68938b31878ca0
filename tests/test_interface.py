"""The interface: lists of calls in, lists of answers out."""

import unittest

from percentlinks.holder import answers
from tests.calling import add, change, cutquery, drop, escape, fill, follow, fragment, get, load, marks, meet, pop
from tests.calling import push, put, read, row, run, set_, signs, state, tree, write, written

# A call of each kind, as numbers, and its answer; each call finds what those ahead of it left.
EVERY_KIND = (
    ([0, 3, 97, 47, 98], [1, 0]),
    ([8, 1, 99], [1, 0]),
    ([7, 1, 1, 46], [1, 0]),
    ([4, 1, 120, 1, 121], [1, 0]),
    ([5, 1, 120, 0], [1, 0]),
    ([3, 1, 120], [7, 0, 2, 1, 1, 121, 1, 0]),
    ([11, 1, 2, 35, 256], [1, 0]),
    ([1], [20, 0] + signs("a/%2E/c?x=y&x=#%23", [256])),
    ([13, 1, 47], [6, 0, 1, 1, 0, 0, 0]),
    ([14, 3, 37, 55, 101], [2, 0, 126]),
    ([15, 3, 256, 35, 258], [5, 0, 0, 0, 2, 3]),
    ([16, 2, 97, 37], [8, 0, 9, 0, 1, 9, 3, 0, 0]),
    ([17, 1, 97, 2, 98, 99], [2, 0, 1]),
    ([17, 0, 1, 58], [4, 1, 1, 1, 0]),
    ([18, 2, 46, 97], [5, 0, 37, 50, 69, 97]),
    ([19, 2, 256, 257, 5, 1, 98, 2, 97, 46], [6, 0, 98, 97, 37, 50, 69]),
    ([20, 2, 256, 257, 5, 1, 98, 2, 97, 46], [9, 0, 0, 1, 3, 98, 97, 46, 0, 0]),
    ([19, 0, 1, 1], [1, -4]),
    ([6, 1, 120], [2, 0, 2]),
    ([2], [14, 0, 0, 3, 1, 97, 1, 46, 1, 99, 0, 1, 2, 35, 256]),
    ([12, 3, 100, 63, 101], [1, 0]),
    ([1], [10, 0] + signs("a/%2E/d?e")),
    ([10], [1, 0]),
    ([9], [2, 0, 100]),
    ([11, 2, 0], [1, -3]),
    ([11, 0, 1, 58], [1, 0]),
    ([12, 1, 58], [3, 1, 1, 0]),
    ([2], [9, 0, 0, 2, 1, 97, 1, 46, 0, 0]),
)


class Interface(unittest.TestCase):
    def test_numbers_in_and_out(self):
        rows = (
            ([0, 3, 97, 47, 98], [1, 0]),
            ([1], [4, 0, 97, 47, 98]),
            ([5, 1, 120, 0], [1, 0]),
            ([3, 1, 120], [4, 0, 1, 1, 0]),
            ([7, 1, 0], [1, 0]),
            ([9], [1, 0]),
            ([2], [12, 0, 0, 1, 1, 97, 1, 1, 1, 120, 1, 0, 0]),
            ([6, 1, 120], [2, 0, 1]),
            ([10], [1, 0]),
            ([9], [1, -3]),
            ([4, 0, 0], [1, 0]),
            ([8, 1, 99], [1, 0]),
            ([1], [6, 0, 97, 47, 99, 63, 61]),
        )
        calls = [number for call, answer in rows for number in call]
        self.assertEqual(answers(calls), [number for call, answer in rows for number in answer])

    def test_every_kind_of_call_in_one_list(self):
        self.assertEqual({call[0] for call, answer in EVERY_KIND}, set(range(21)))
        calls = [number for call, answer in EVERY_KIND for number in call]
        before = list(calls)
        self.assertEqual(answers(calls), [number for call, answer in EVERY_KIND for number in answer])
        self.assertEqual(calls, before)
        # A second list begins with a new object.
        self.assertEqual(answers([2, 1]), [6, 0, 0, 1, 0, 0, 0, 1, 0])
        self.assertEqual(answers(calls), [number for call, answer in EVERY_KIND for number in answer])

    def test_each_kind_as_the_first_and_only_call(self):
        for call in (load("a"), written(), tree(), get("a"), set_("a", "b"), add("a", "b"), drop("a"), change(0, "a"),
                     push("a"), pop(), cutquery(), fragment(1, "a"), follow("a"), read("a"), write("a"), marks("a"),
                     state("a"), meet("a", "b"), escape("a"), put("a", []), fill("a", [])):
            before = list(call)
            told = answers(call)
            self.assertEqual(told[0], len(told) - 1, call)
            self.assertEqual(told[1], {8: -5, 9: -3}.get(call[0], 0), call)
            self.assertEqual(call, before)
            self.assertEqual(answers(tree()), [6, 0, 0, 1, 0, 0, 0])

    def test_a_refusal_and_a_fault_among_answers(self):
        calls = load("a") + load([65536]) + load(":") + written()
        self.assertEqual(answers(calls), [1, 0, 1, -1, 3, 1, 1, 0, 2, 0, 97])

    def test_the_answer_is_a_new_list_of_whole_numbers(self):
        calls = load("https://a:1/b?c&d=e#f") + tree() + get("c") + set_("c", "x") + written()
        told = answers(calls)
        self.assertIs(type(told), list)
        self.assertTrue(all([type(number) is int for number in told]))

    def test_what_is_handed_in_is_not_changed(self):
        calls = load("a/b?c=d") + change(0, "%") + push("x") + set_("c", "y") + add("c", "z") + [9, 9, 9, 10] + tree()
        before = list(calls)
        answers(calls)
        self.assertEqual(calls, before)
        calls = follow("x/y?z") + fragment(1, [256]) + read("a") + write("%2e") + marks([256]) + state("a")
        calls += meet("a", "b") + escape(".") + put([256], [1, 46]) + fill([256], [1, 46]) + tree()
        before = list(calls)
        answers(calls)
        self.assertEqual(calls, before)
        refused = load(":") + push([-1]) + change(5, "a" * 2049) + put("", [1]) + fill([256] * 99, [999] + [0] * 999)
        refused += follow(":") + fragment(2, "a") + escape([256]) + meet(":", ":") + tree()
        before = list(refused)
        answers(refused)
        self.assertEqual(refused, before)

    def test_nothing_is_kept_from_one_list_to_the_next(self):
        answers(load("https://a:1/b?c=d#e"))
        answers(add("a", "b") + change(0, "x"))
        answers(follow("http://a/b") + fragment(1, "c") + put([256], [1, 97]) + fill([256], [1, 97]))
        self.assertEqual(answers(put([256], []) + fill([256], [])), [1, 0, 6, 0, 0, 1, 0, 0, 0])
        self.assertEqual(answers(tree() + written()), [6, 0, 0, 1, 0, 0, 0, 1, 0])
        self.assertEqual(answers(push("a")), [1, -5])
        self.assertEqual(answers(tree()), [6, 0, 0, 1, 0, 0, 0])

    def test_the_same_list_twice(self):
        calls = load("a/b") + push("c") + add("d", "e") + tree() + [9] + written()
        self.assertEqual(answers(calls), answers(calls))

    def test_rows_of_numbers_that_look_like_calls(self):
        self.assertEqual(run([0] + row([49, 48]), [3] + row([9, 10, 0]), [9]), [[0], [0, 0], [-3]])

    def test_four_hundred_calls(self):
        calls = load("http://a") + push("b") * 398 + written()
        told = answers(calls)
        self.assertEqual(told[:798], [1, 0] * 399)
        self.assertEqual(told[798:], [1 + 8 + 2 * 398, 0] + signs("http://a", "/b" * 398))

    def test_four_hundred_calls_of_many_kinds(self):
        round_of_calls = (follow("a/b"), fragment(1, "c"), state("a"), put([256], [1, 97]), written())
        found = run(load("http://h"), *(round_of_calls * 79), follow("/"), tree(), written(), escape(""))
        self.assertEqual(len(found), 400)
        self.assertEqual(found[-5], [0] + signs("http://h/" + "a/" * 79 + "b#c"))
        self.assertEqual(found[-2], [0] + signs("http://h/"))

    def test_as_many_parts_and_segments_as_a_text_can_have(self):
        self.assertEqual(run(load("?" + "&" * 2047), get(""))[1], [0, 2048] + [0] * 2048)
        self.assertEqual(run(load("a" + "/" * 2047), tree())[1], [0, 0, 2048, 1, 97] + [0] * 2049)
        self.assertEqual(run(load("http://" + "a." * 1020 + "a"), tree())[1],
                         [0, 2, 0, 1021] + [1, 97] * 1021 + [0, 0, 0, 0])
