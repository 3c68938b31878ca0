"""Promises 19 to 21: escape, put, fill."""

import random
import unittest

from tests.calling import HUGE, LinkCase, data_row, escape, fill, load, mark, put, read, run, signs, tree

HELD = [load("https://h:7/x?y=z#f")]
PLAIN = "abcdefghijklmnopqrstuvwxyzABCDEFGHIJKLMNOPQRSTUVWXYZ0123456789-_~"
PATTERN = signs("http://h/", mark(0), "/a", mark(1), "?", mark(2), "=", mark(1), "&b=", mark(0), mark(3), "#", mark(0))
BOTH = (put, fill)


def written_form(datum):
    return "".join(chr(byte) if chr(byte) in PLAIN else f"%{byte:02X}" for byte in signs(datum))


class Escape(LinkCase):
    def test_no_bytes(self):
        self.assertAnswer(escape(""), [0])

    def test_plain_bytes(self):
        self.assertAnswer(escape(PLAIN), [0] + signs(PLAIN))

    def test_each_byte(self):
        for byte in range(256):
            self.assertAnswer(escape([byte]), [0] + signs(written_form([byte])))
        self.assertAnswer(escape(list(range(256))), [0] + signs(written_form(list(range(256)))))

    def test_the_dot_is_a_percent_form(self):
        self.assertAnswer(escape("."), [0] + signs("%2E"))
        self.assertAnswer(escape("a..b"), [0] + signs("a%2E%2Eb"))

    def test_percent_forms_are_not_read(self):
        self.assertAnswer(escape("%41"), [0] + signs("%2541"))
        self.assertAnswer(escape("/?#&=:"), [0] + signs("%2F%3F%23%26%3D%3A"))

    def test_great_letters(self):
        self.assertAnswer(escape([0xaf, 0xfa, 0x0b]), [0] + signs("%AF%FA%0B"))

    def test_least_and_greatest(self):
        self.assertAnswer(escape([0]), [0] + signs("%00"))
        self.assertAnswer(escape([255]), [0] + signs("%FF"))
        for number in (256, -1, 257, 65535, 65536, HUGE, -HUGE):
            self.assertKept(HELD, escape([number]), [-1])
            self.assertKept(HELD, escape([97, number, 97]), [-1])

    def test_bounds(self):
        self.assertAnswer(escape([255] * 2048), [0] + signs("%FF" * 2048))
        self.assertKept(HELD, escape([97] * 2049), [-2])
        self.assertKept(HELD, escape([97] * 2048 + [256]), [-1])
        self.assertKept(HELD, escape([-1] + [97] * 2048), [-1])

    def test_the_held_link_stays(self):
        self.assertKept(HELD, escape("a."), [0] + signs("a%2E"))


class Put(LinkCase):
    def assertPut(self, text, data, form):
        self.assertAnswer(put(text, data_row(*data)), [0] + signs(form))

    def test_each_mark_is_replaced(self):
        self.assertPut(PATTERN, ("x", "y/", "&", "."), "http://h/x/ay%2F?%26=y%2F&b=x%2E#x")
        self.assertPut(signs("a", mark(1), mark(0), mark(1)), ("b", "c"), "acbc")

    def test_all_other_signs_stay(self):
        self.assertPut("%2e%41%ff/%2E?%3d=#%7e", (), "%2e%41%ff/%2E?%3d=#%7e")
        self.assertPut(signs("%61", mark(0), "%7e/.a"), (".",), "%61%2E%7e/.a")
        self.assertPut("", (), "")
        self.assertPut("", ("a",), "")

    def test_data_that_are_not_there_are_empty(self):
        self.assertPut(PATTERN, (), "http://h//a?=&b=#")
        self.assertPut(PATTERN, ("", "x"), "http://h//ax?=x&b=#")
        self.assertPut(mark(65279), ("a", "b"), "")
        self.assertPut(signs(mark(1), "x", mark(2)), ("a", "b"), "bx")

    def test_more_data_than_marks(self):
        self.assertPut(mark(1), ("a", "b", "c"), "b")

    def test_many_data(self):
        self.assertPut(mark(511), ["a"] * 511 + ["b"], "b")
        self.assertPut(mark(1023), [""] * 1024, "")
        self.assertPut(mark(1022), [""] * 1022 + ["b"], "b")

    def test_each_byte(self):
        for byte in range(256):
            self.assertPut(signs("a", mark(0)), ([byte],), "a" + written_form([byte]))

    def test_what_is_put_in_stays_where_it_was_put(self):
        self.assertPut(mark(0), ("http://n/..?a=b&c#d",), "http%3A%2F%2Fn%2F%2E%2E%3Fa%3Db%26c%23d")
        self.assertPut(signs("a/", mark(0), "/b"), ("..",), "a/%2E%2E/b")
        self.assertPut(signs("?", mark(0), "=", mark(0)), ("%26",), "?%2526=%2526")
        self.assertPut(mark(0), ([200, 0],), "%C8%00")

    def test_the_held_link_stays(self):
        self.assertKept(HELD, put(signs("a", mark(0)), [1, 98]), [0] + signs("ab"))


class Fill(LinkCase):
    def assertFilled(self, text, data, numbers):
        self.assertAnswer(fill(text, data_row(*data)), [0] + numbers)

    def test_each_mark_is_replaced(self):
        self.assertFilled(mark(0), ("ab",), [0, 1, 2, 97, 98, 0, 0])
        self.assertFilled(signs("/x", mark(0), "/", mark(1), mark(0)), ("a", "bc"),
                          [1, 2, 2, 120, 97, 3, 98, 99, 97, 0, 0])
        self.assertFilled(signs("?", mark(0), "=", mark(1), "&", mark(1)), ("a", "b"),
                          [0, 1, 0, 1, 2, 1, 97, 1, 1, 98, 1, 98, 0, 0])
        self.assertFilled(signs("#", mark(0), "x"), ("a",), [0, 1, 0, 0, 1, 2, 97, 120])
        self.assertFilled(signs("https://h.i:7/", mark(0)), ("a",),
                          [2, 1, 2, 1, 104, 1, 105, 7, 1, 1, 97, 0, 0])

    def test_bytes_are_told_as_they_are(self):
        self.assertFilled(mark(0), (".",), [0, 1, 1, 46, 0, 0])
        self.assertFilled(signs("a/", mark(0)), ("/..%41",), [0, 2, 1, 97, 6] + signs("/..%41") + [0, 0])
        self.assertFilled(signs("?a=", mark(0)), ([0, 38, 255],), [0, 1, 0, 1, 1, 1, 97, 1, 3, 0, 38, 255, 0])

    def test_percent_forms_of_the_text_are_read(self):
        self.assertFilled(signs("%2f", mark(0), "#%41"), ("%2f",), [0, 1, 4, 47, 37, 50, 102, 0, 1, 1, 65])

    def test_data_that_are_not_there_are_empty(self):
        self.assertFilled(signs(mark(0), "?", mark(1), "=", mark(65279), "&", mark(2), "#", mark(3)), ("",),
                          [0, 1, 0, 1, 2, 0, 1, 0, 0, 0, 1, 0])
        self.assertFilled(signs("a", mark(1)), ("b",), [0, 1, 1, 97, 0, 0])

    def test_without_marks_as_read(self):
        for text in ("", "/", "a//b", "https://a.b:1/%2E?c=d&e#", "?", "#f"):
            self.assertEqual(run(fill(text, [])), run(read(text)), text)
            self.assertEqual(run(fill(text, [1, 46])), run(read(text)), text)

    def test_each_byte_beside_read_of_put(self):
        text = signs(mark(0), "a/", mark(0), "?", mark(0), "=", mark(0), "&", mark(0), "#", mark(0))
        for byte in range(256):
            form = run(put(text, [1, byte]))[0][1:]
            self.assertEqual(run(fill(text, [1, byte])), run(read(form)), byte)

    def test_the_held_link_stays(self):
        self.assertKept(HELD, fill(signs("a", mark(0)), [1, 98]), [0, 0, 1, 2, 97, 98, 0, 0])


class DataRows(LinkCase):
    """When a data row is whole; put and fill refuse alike."""

    def assertRefused(self, text, row, answer):
        for make in BOTH:
            with self.subTest(call=make.__name__, row=row[:9], length=len(row)):
                self.assertKept(HELD, make(text, row), answer)

    def assertWhole(self, row):
        for make in BOTH:
            with self.subTest(call=make.__name__, row=row[:9], length=len(row)):
                self.assertEqual(run(make("a", row))[0][0], 0)

    def test_a_count_below_0(self):
        for row in ([-1], [-1, 97], [0, -1], [1, 97, -1], [-HUGE], [-2, 1, 97], [2, 97, 98, -3]):
            self.assertRefused("a", row, [-4])

    def test_a_count_greater_than_what_is_left(self):
        for row in ([1], [2, 97], [0, 1], [1, 97, 1], [HUGE], [1, 97, 2, 97], [3, 97, 98], [1, 97, 0, 2, 98]):
            self.assertRefused("a", row, [-4])

    def test_numbers_that_are_not_bytes(self):
        for number in (-1, 256, 257, 65535, 65536, HUGE, -HUGE):
            for row in ([1, number], [2, 97, number], [2, number, 97], [0, 1, number], [1, 97, 1, number]):
                self.assertRefused("a", row, [-4])

    def test_whole_rows(self):
        for row in ([], [0], [0, 0], [1, 0], [1, 255], [2, 97, 98], [0, 1, 97, 0], [1, 1, 1, 1], [3, 1, 2, 3]):
            self.assertWhole(row)
        self.assertWhole([256] + [97] * 256)

    def test_data_that_no_mark_asks_for_count_too(self):
        self.assertRefused("", [1, 97, 1, 256], [-4])
        self.assertRefused(mark(0), [1, 97, 2], [-4])

    def test_as_many_numbers_as_may_be(self):
        self.assertWhole([0] * 1024)
        self.assertWhole([1023] + [255] * 1023)
        self.assertRefused("a", [0] * 1025, [-2])
        self.assertRefused("a", [1024] + [97] * 1024, [-2])
        self.assertRefused("a", [0] * 10000, [-2])

    def test_too_many_numbers_go_before_a_row_that_is_not_whole(self):
        self.assertRefused("a", [-1] * 1025, [-2])
        self.assertRefused("a", [HUGE] * 1025, [-2])
        self.assertRefused("a", [-1] * 1024, [-4])
        self.assertRefused("a" * 2049, [-1], [-2])

    def test_a_data_rows_numbers_are_not_asked_whether_they_are_signs(self):
        self.assertRefused("a", [1, 65536], [-4])
        self.assertRefused("a" * 2049, [1, 65536], [-2])
        self.assertRefused([65536], [1, 65536], [-1])

    def test_a_sign_that_is_none_goes_before_all_else(self):
        self.assertRefused([-1], [], [-1])
        self.assertRefused([65536], [-1], [-1])
        self.assertRefused([65536], [0] * 1025, [-1])
        self.assertRefused([58, -1], [0], [-1])

    def test_too_many_signs(self):
        self.assertRefused("a" * 2049, [], [-2])
        self.assertRefused(":" * 2049, [0], [-2])
        self.assertEqual(run(put("a" * 2048, [])), [[0] + [97] * 2048])
        self.assertEqual(run(fill("a" * 2048, [])), [[0, 0, 1, 2048] + [97] * 2048 + [0, 0]])

    def test_a_row_that_is_not_whole_goes_before_a_fault(self):
        self.assertRefused("a:b", [1], [-4])
        self.assertRefused("%", [1, 256], [-4])
        self.assertRefused("a:b", [], [1, 1, 1])

    def test_faults(self):
        for text, kind, place in (("a:b", 1, 1), ("http://a:0", 2, 9), ("a/../b", 3, 4), (signs(mark(0), "."), 3, 2),
                                  (signs(mark(0), "/a"), 4, 1), (signs("http://", mark(0)), 5, 7),
                                  (signs("%", mark(0)), 5, 1), ("a%4", 6, 3), ("a" * 2047 + "%", 6, 2048)):
            self.assertRefused(text, [], [1, kind, place])
            self.assertRefused(text, data_row("a", "b"), [1, kind, place])


class Lengths(LinkCase):
    """-7 by what comes out of put."""

    PLAIN_ROW = [1023] + [97] * 1023
    PERCENT_ROW = [1023] + [0] * 1023

    def test_plain_bytes(self):
        # 64 * 1023 and 64 signs.
        text = signs([256] * 64, "b" * 64)
        self.assertEqual(run(put(text, self.PLAIN_ROW)), [[0] + [97] * 65472 + [98] * 64])
        self.assertEqual(run(fill(text, self.PLAIN_ROW)), [[0, 0, 1, 65536] + [97] * 65472 + [98] * 64 + [0, 0]])
        for make in BOTH:
            self.assertKept(HELD, make(signs(text, "b"), self.PLAIN_ROW), [-7])

    def test_percent_forms_of_data(self):
        # 21 * 3069 and 1087 signs; what is filled in is a third of this.
        text = signs([256] * 21, "b" * 1087)
        self.assertEqual(run(put(text, self.PERCENT_ROW)), [[0] + signs("%00") * 21483 + [98] * 1087])
        self.assertEqual(run(fill(text, self.PERCENT_ROW)), [[0, 0, 1, 22570] + [0] * 21483 + [98] * 1087 + [0, 0]])
        for make in BOTH:
            self.assertKept(HELD, make(signs(text, "b"), self.PERCENT_ROW), [-7])

    def test_percent_forms_of_the_text(self):
        text = signs([256] * 64, "b" * 61, "%62")
        self.assertEqual(run(put(text, self.PLAIN_ROW)), [[0] + [97] * 65472 + [98] * 61 + signs("%62")])
        self.assertEqual(run(fill(text, self.PLAIN_ROW))[0][:4], [0, 0, 1, 65534])
        for make in BOTH:
            self.assertKept(HELD, make(signs([256] * 64, "b" * 62, "%62"), self.PLAIN_ROW), [-7])

    def test_dividers_count(self):
        text = signs("http://h/", [256] * 32, "?", [256] * 16, "=", [256] * 15, "#", [256])
        self.assertEqual(len(run(put(signs(text, "b" * 52), self.PLAIN_ROW))[0]), 1 + 65536)
        self.assertEqual(run(fill(signs(text, "b" * 52), self.PLAIN_ROW))[0][0], 0)
        for make in BOTH:
            self.assertKept(HELD, make(signs(text, "b" * 53), self.PLAIN_ROW), [-7])

    def test_the_longest_of_all(self):
        for make in BOTH:
            self.assertKept(HELD, make([256] * 2048, self.PERCENT_ROW), [-7])

    def test_data_that_no_mark_asks_for_do_not_count(self):
        self.assertEqual(run(put([257] * 2048, self.PERCENT_ROW)), [[0]])
        self.assertEqual(run(fill([257] * 2048, self.PERCENT_ROW)), [[0, 0, 1, 0, 0, 0]])

    def test_marks_of_no_datum_count_nothing(self):
        text = signs([256] * 64, [300] * 1000, "b" * 64)
        self.assertEqual(len(run(put(text, self.PLAIN_ROW))[0]), 1 + 65536)

    def test_a_fault_goes_before_it(self):
        for make in BOTH:
            self.assertKept(HELD, make(signs([256] * 64, "b" * 65, ":"), self.PLAIN_ROW), [1, 1, 129])
            self.assertKept(HELD, make(signs([256] * 64, "b" * 65, "%"), self.PLAIN_ROW), [1, 6, 130])

    def test_a_row_that_is_not_whole_goes_before_it(self):
        for make in BOTH:
            self.assertKept(HELD, make([256] * 2048, self.PLAIN_ROW[:-1] + [256]), [-4])
            self.assertKept(HELD, make([256] * 2048, [1022] + [0] * 1022 + [1]), [-4])


class PutBesideFill(unittest.TestCase):
    """What comes out of put is read as the tree that comes out of fill."""

    def random_text(self, source, letters, longest):
        return [source.choice(letters) for turn in range(source.randint(0, longest))]

    def random_link(self, source):
        def text():
            return self.random_text(source, signs("aA~.", [256, 257, 258, 300]), 3)

        link = signs(source.choice(("", "", "/", "http://h/", "https://h.i:7/")), text())
        for turn in range(source.randint(0, 2)):
            link += signs("/", text())
        if source.random() < 0.6:
            link += signs("?", text())
            for turn in range(source.randint(0, 2)):
                link += signs(source.choice(("&", "=", "%2e")), text())
        if source.random() < 0.4:
            link += signs("#", text())
        return link

    def test_random_links_and_data(self):
        source = random.Random(2)
        whole = 0
        for turn in range(3000):
            link = self.random_link(source)
            data = [self.random_text(source, signs("a.%/:?#&=", [0, 200, 255]), 3) for i in range(source.randint(0, 3))]
            row = data_row(*data)
            loaded, held, out, filled = run(load(link), tree(), put(link, row), fill(link, row))
            if loaded[0] == 1:
                self.assertEqual([out, filled], [loaded, loaded], link)
                continue
            whole += 1
            forms = [signs(written_form(data[sign - 256]) if sign - 256 < len(data) else "") if sign >= 256 else [sign]
                     for sign in link]
            self.assertEqual(out, [0] + signs(*forms), (link, data))
            self.assertEqual(run(read(out[1:])), [filled], (link, data))
        self.assertGreater(whole, 1000)
