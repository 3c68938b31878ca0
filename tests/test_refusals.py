"""The refusals, their order, and the bounds of held links."""

from tests.calling import HUGE, LinkCase, add, change, cutquery, drop, escape, fill, follow, fragment, get, load, mark
from tests.calling import marks, meet, pop, push, put, read, run, set_, state, write, written

BEFORE = [load("https://h:7/x/y?a=b&c#f")]
LONGEST = "a" * 2048
TOO_LONG = "a" * 2049


def calls_with(text):
    """Every call of a row, with the text at each of its rows."""
    return (load(text), get(text), set_(text, "x"), set_("x", text), add(text, "x"), add("x", text), drop(text),
            change(0, text), push(text), fragment(0, text), fragment(1, text), fragment(2, text), follow(text),
            read(text), write(text), marks(text), state(text), meet(text, "x"), meet("x", text), escape(text),
            put(text, []), fill(text, []))


def filled():
    """Calls that leave a rooted link of one segment whose one form has 8192 signs."""
    return [load("/" + "a" * 2044), add("n", [0] * 2048)]


class First(LinkCase):
    def test_numbers_that_are_not_signs(self):
        for number in (-1, 65536, -HUGE, HUGE):
            for text in ([number], [97, number, 97]):
                for call in calls_with(text):
                    with self.subTest(call=call):
                        self.assertKept(BEFORE, call, [-1])

    def test_too_many_numbers(self):
        for call in calls_with(TOO_LONG):
            with self.subTest(call=call[:2]):
                self.assertKept(BEFORE, call, [-2])
        for call in calls_with([97] * 10000):
            with self.subTest(call=call[:2]):
                self.assertKept([], call, [-2])

    def test_as_many_numbers_as_may_be(self):
        for call in calls_with(LONGEST):
            with self.subTest(call=call[:2]):
                self.assertEqual(run(load("x/y"), call)[1][0], -3 if call[:2] == [11, 2] else 0)

    def test_a_stranger_goes_before_too_many(self):
        for call in calls_with([97] * 2048 + [65536]):
            with self.subTest(call=call[:2]):
                self.assertKept(BEFORE, call, [-1])

    def test_a_stranger_in_either_row_goes_before_too_many_in_the_other(self):
        for make in (set_, add, meet):
            self.assertKept(BEFORE, make(TOO_LONG, [65536]), [-1])
            self.assertKept(BEFORE, make([-1], TOO_LONG), [-1])

    def test_they_go_before_a_fault(self):
        for make in (load, follow, read, write, marks, state):
            self.assertKept(BEFORE, make([58, -1]), [-1])
            self.assertKept(BEFORE, make(":" * 2049), [-2])
        self.assertKept(BEFORE, meet(":", [-1]), [-1])
        self.assertKept(BEFORE, meet(":", ":" * 2049), [-2])

    def test_they_go_before_a_segment_that_is_not_there(self):
        self.assertKept(BEFORE, change(9, [-1]), [-1])
        self.assertKept(BEFORE, change(-1, TOO_LONG), [-2])

    def test_they_go_before_trees_that_are_not_good(self):
        self.assertKept([], push([65536]), [-1])
        self.assertKept([], push(TOO_LONG), [-2])
        self.assertKept([load("a/b")], change(0, [256] * 2049), [-2])


class Greatest(LinkCase):
    def test_the_greatest_sign_of_every_call(self):
        for call in calls_with([65535]):
            with self.subTest(call=call[:2]):
                answer = run(load("x"), call)[1]
                if call[:2] == [11, 2]:
                    self.assertEqual(answer, [-3])
                elif call[0] == 18:
                    self.assertEqual(answer, [-1])
                else:
                    self.assertEqual(answer[0], 0)


class Last(LinkCase):
    """-3, then -5, and -6 last of all."""

    def test_not_there_goes_before_not_good_and_out_of_bounds(self):
        self.assertKept([load("a/b")], change(2, ""), [-3])
        self.assertKept([load("a/b")], change(-1, mark(0)), [-3])
        self.assertKept(filled(), change(1, LONGEST), [-3])
        self.assertKept(filled(), change(0, LONGEST), [-6])

    def test_not_good_goes_before_out_of_bounds(self):
        # One empty segment, and a one form of 8192 signs.
        full = [add("n", [0] * 2048), add("m", "a" * 2042)]
        self.assertEqual(len(run(*full, written())[-1]), 1 + 8192)
        self.assertKept(full, push(LONGEST), [-5])
        room = [load("a"), push("")] + full[:1] + [add("m", "a" * 2040)]
        self.assertEqual(len(run(*room, written())[-1]), 1 + 8192)
        self.assertKept(room, change(0, [256] * 2), [-5])
        self.assertKept(room, change(1, [256] * 2), [-6])


class HeldBounds(LinkCase):
    def assertLength(self, calls, length):
        self.assertEqual(len(run(*calls, written())[-1]) - 1, length)

    def test_set(self):
        # ?n= takes three signs, and each byte of the value three more.
        full = [load("a" * 2045), set_("n", [0] * 2048)]
        self.assertLength(full, 8192)
        self.assertHeld(full + [set_("n", "")], [0], "a" * 2045 + "?n=")
        self.assertKept([load("a" * 2046)], set_("n", [0] * 2048), [-6])
        self.assertKept([load("a" * 2046), set_("n", "x")], set_("n", [0] * 2048), [-6])

    def test_set_is_measured_by_what_it_would_leave(self):
        # There is room for the value only because the later part of this name goes.
        before = [load("?n&n=" + "a" * 2000), add("m", [0] * 2040)]
        self.assertLength(before + [set_("n", "a" * 2048)], 3 + 2048 + 3 + 6120)
        self.assertLength(before + [add("n", "a" * 61)], 8192)
        self.assertKept(before, add("n", "a" * 62), [-6])

    def test_add(self):
        self.assertLength([load("a" * 2045), add("n", [0] * 2048)], 8192)
        self.assertKept([load("a" * 2046)], add("n", [0] * 2048), [-6])
        self.assertKept([load("a" * 2045), add("n", [0] * 2048)], add("", ""), [-6])

    def test_change(self):
        before = [load("a" * 4), add("n", [0] * 2048)]
        self.assertLength(before + [change(0, "a" * 2045)], 8192)
        self.assertKept(before, change(0, "a" * 2046), [-6])
        self.assertKept(before, change(0, "a" * 2044 + " "), [-6])

    def test_push(self):
        before = [load("a" * 1000), add("n", [0] * 2048)]
        self.assertLength(before + [push("a" * 1044)], 8192)
        self.assertKept(before, push("a" * 1045), [-6])
        self.assertKept(before + [push("a" * 1044)], push(""), [-6])
        self.assertKept([load("http://a"), add("n", [0] * 2048)], push([0] * 2048), [-6])

    def test_dots_are_measured_as_they_are_written(self):
        before = [load("a" * 1000), add("n", [0] * 2048), push("a" * 1037)]
        self.assertLength(before + [push("%.")], 8190)
        self.assertLength(before + [push("..")], 8192)
        self.assertKept([load("a" * 1000), add("n", [0] * 2048), push("a" * 1038)], push(".."), [-6])

    def test_calls_that_make_room(self):
        full = [load("a" * 1022), push("b" * 1022), add("n", [0] * 2048)]
        self.assertLength(full, 8192)
        self.assertHeld(full + [pop()], [0] + [98] * 1022, [97] * 1022 + [63, 110, 61] + [37, 48, 48] * 2048)
        self.assertLength(full + [drop("n")], 2045)
        self.assertLength(full + [cutquery()], 2045)
        self.assertLength(full + [load("x")], 1)
