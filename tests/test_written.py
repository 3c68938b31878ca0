"""Promise 2: written, the one form."""

from tests.calling import LinkCase, add, change, load, mark, pop, push, run, set_, signs, tree, written

PLAIN = "abcdefghijklmnopqrstuvwxyzABCDEFGHIJKLMNOPQRSTUVWXYZ0123456789-_~"
DIGITS = "0123456789ABCDEF"


def form_of(text):
    return run(load(text), written())[1]


class Written(LinkCase):
    def assertForm(self, text, form):
        self.assertEqual(form_of(text), [0] + signs(form), text)

    def test_a_new_object(self):
        self.assertEqual(run(written()), [[0]])

    def test_links_that_are_in_one_form(self):
        for text in ("", "/", "a", "/a", "a/b", "a//b", "/a//", "http://a", "http://a/", "https://a", "https://a/",
                     "http://a//", "https://ab.c-d.0:65535/x/y", "http://a:1", "http://a:10?b", "http://a?", "http://a#",
                     "?", "?&", "?=", "?a", "?a=", "?a=b", "?a&b=c&&=d", "#", "#a", "?#", "a/b?c=d#e", "...", ".a",
                     "http", "https", "?.", "#..", "?..=."):
            with self.subTest(text=text):
                self.assertForm(text, text)

    def test_ports(self):
        for port in ("1", "9", "10", "80", "100", "443", "8080", "65535"):
            with self.subTest(port=port):
                self.assertForm("https://a:" + port + "/b", "https://a:" + port + "/b")

    def test_percent_forms_of_all_bytes(self):
        for byte in range(256):
            percent = "%" + DIGITS[byte // 16] + DIGITS[byte % 16]
            form = chr(byte) if chr(byte) in PLAIN + "." else percent
            with self.subTest(byte=byte):
                for small in (percent, percent.lower()):
                    self.assertForm("a" + small, "a" + form)
                    self.assertForm("?a" + small + "=b" + small, "?a" + form + "=b" + form)
                    self.assertForm("#" + small, "#" + form)

    def test_contents_that_were_put_in(self):
        calls = [load("a"), push("/?#%"), set_("&=", "=&#\xff\x00"), written()]
        self.assertEqual(run(*calls)[-1], [0] + signs("a/%2F%3F%23%25?%26%3D=%3D%26%23%FF%00"))

    def test_marks_stand_as_they_are(self):
        text = signs("a", mark(0), "/", mark(1), "?", mark(2), "=", mark(65279), "#", mark(3))
        self.assertForm(text, text)

    def test_segments_of_dots_alone(self):
        self.assertForm("%2E", "%2E")
        self.assertForm("%2e%2e", "%2E%2E")
        self.assertForm(".%2e", "%2E%2E")
        self.assertForm("%2e.", "%2E%2E")
        self.assertForm("a/%2e/b", "a/%2E/b")
        self.assertForm("http://a/%2e%2e", "http://a/%2E%2E")

    def test_segments_of_dots_alone_with_marks(self):
        self.assertForm(signs(mark(0), "%2e"), signs(mark(0), "%2E"))
        self.assertForm(signs("%2e", mark(0), "."), signs("%2E", mark(0), "%2E"))

    def test_segments_of_more_than_dots(self):
        self.assertForm("%2e%2e%2e", "...")
        self.assertForm("%2ea", ".a")
        self.assertForm("%2e%00", ".%00")
        self.assertForm(signs("%2e", mark(0), "%2e."), signs(".", mark(0), ".."))

    def test_dots_alone_outside_segments(self):
        self.assertForm("?%2e=%2e%2e#%2e", "?.=..#.")

    def test_dots_that_were_put_in(self):
        self.assertHeld([change(0, ".")], [0], "%2E")
        self.assertHeld([change(0, "..")], [0], "%2E%2E")
        self.assertHeld([change(0, signs(mark(0), ".", mark(1)))], [0], signs(mark(0), "%2E", mark(1)))
        self.assertHeld([load("a"), push(".."), push("...")], [0], "a/%2E%2E/...")
        self.assertHeld([add(".", "..")], [0], "?.=..")

    def test_whole_links_without_and_with_segments(self):
        self.assertHeld([load("http://a/"), pop()], [0], "http://a")
        self.assertHeld([load("http://a"), push("")], [0], "http://a/")
        self.assertHeld([load("http://a?b#c"), push(""), push("")], [0], "http://a//?b#c")

    def test_the_one_form_is_read_as_the_same_tree(self):
        calls = [load("https://a.b:7/%2E/x%2Fy?%3D=%26#%23"), push(".."), push(signs(".", mark(4))), push(""),
                 add("", ""), add("a&b", "%41"), set_("=", [0, 200, 300])]
        found = run(*calls, written(), tree())
        form = found[-2][1:]
        self.assertEqual(run(load(form), tree(), written()), [[0], found[-1], found[-2]])

    def test_written_changes_nothing(self):
        self.assertKept([load("%2E?b=%20#")], written(), [0] + signs("%2E?b=%20#"))
