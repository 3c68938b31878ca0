"""The interface: lists of calls in, lists of answers out."""

import unittest

from percentlinks.holder import answers
from tests.calling import add, change, get, load, push, row, run, set_, signs, tree, written


class Interface(unittest.TestCase):
    def test_numbers_in_and_out(self):
        rows = (
            ([0, 3, 97, 47, 98], [1, 0]),
            ([1], [4, 0, 97, 47, 98]),
            ([5, 1, 120, 0], [1, 0]),
            ([3, 1, 120], [4, 0, 1, 1, 0]),
            ([7, 1, 0], [1, 0]),
            ([9], [1, 0]),
            ([2], [12, 0, 0, 1, 1, 97, 1, 1, 1, 120, 1, 0, 0]),
            ([6, 1, 120], [2, 0, 1]),
            ([10], [1, 0]),
            ([9], [1, -3]),
            ([4, 0, 0], [1, 0]),
            ([8, 1, 99], [1, 0]),
            ([1], [6, 0, 97, 47, 99, 63, 61]),
        )
        calls = [number for call, answer in rows for number in call]
        self.assertEqual(answers(calls), [number for call, answer in rows for number in answer])

    def test_a_refusal_and_a_fault_among_answers(self):
        calls = load("a") + load([65536]) + load(":") + written()
        self.assertEqual(answers(calls), [1, 0, 1, -1, 3, 1, 1, 0, 2, 0, 97])

    def test_the_answer_is_a_new_list_of_whole_numbers(self):
        calls = load("https://a:1/b?c&d=e#f") + tree() + get("c") + set_("c", "x") + written()
        told = answers(calls)
        self.assertIs(type(told), list)
        self.assertTrue(all([type(number) is int for number in told]))

    def test_what_is_handed_in_is_not_changed(self):
        calls = load("a/b?c=d") + change(0, "%") + push("x") + set_("c", "y") + add("c", "z") + [9, 9, 9, 10] + tree()
        before = list(calls)
        answers(calls)
        self.assertEqual(calls, before)
        refused = load(":") + push([-1]) + change(5, "a" * 2049) + tree()
        before = list(refused)
        answers(refused)
        self.assertEqual(refused, before)

    def test_nothing_is_kept_from_one_list_to_the_next(self):
        answers(load("https://a:1/b?c=d#e"))
        answers(add("a", "b") + change(0, "x"))
        self.assertEqual(answers(tree() + written()), [6, 0, 0, 1, 0, 0, 0, 1, 0])
        self.assertEqual(answers(push("a")), [1, -5])
        self.assertEqual(answers(tree()), [6, 0, 0, 1, 0, 0, 0])

    def test_the_same_list_twice(self):
        calls = load("a/b") + push("c") + add("d", "e") + tree() + [9] + written()
        self.assertEqual(answers(calls), answers(calls))

    def test_rows_of_numbers_that_look_like_calls(self):
        self.assertEqual(run([0] + row([49, 48]), [3] + row([9, 10, 0]), [9]), [[0], [0, 0], [-3]])

    def test_four_hundred_calls(self):
        calls = load("http://a") + push("b") * 398 + written()
        told = answers(calls)
        self.assertEqual(told[:798], [1, 0] * 399)
        self.assertEqual(told[798:], [1 + 8 + 2 * 398, 0] + signs("http://a", "/b" * 398))

    def test_as_many_parts_and_segments_as_a_text_can_have(self):
        self.assertEqual(run(load("?" + "&" * 2047), get(""))[1], [0, 2048] + [0] * 2048)
        self.assertEqual(run(load("a" + "/" * 2047), tree())[1], [0, 0, 2048, 1, 97] + [0] * 2049)
        self.assertEqual(run(load("http://" + "a." * 1020 + "a"), tree())[1],
                         [0, 2, 0, 1021] + [1, 97] * 1021 + [0, 0, 0, 0])
