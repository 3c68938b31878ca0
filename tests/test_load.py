"""Promise 1: load."""

from tests.calling import LinkCase, load, mark, run, signs, tree, written


class Examples(LinkCase):
    """The examples of "The first fault"."""

    def test_examples(self):
        rows = (
            ("a:b", 1, 1),
            ("http:/a", 1, 6),
            ("http://", 6, 7),
            ("http://A", 1, 7),
            ("http://a:0", 2, 9),
            ("http://a:65536", 2, 13),
            ("a/../b", 3, 4),
            ("a/.", 3, 3),
            ("//a", 4, 1),
            ("a%4", 6, 3),
            ("a%4g", 1, 3),
            ("a?b=c=d", 1, 5),
            ("a#b#c", 1, 3),
        )
        for text, kind, place in rows:
            with self.subTest(text=text):
                self.assertFault(text, kind, place)

    def test_http_alone(self):
        self.assertTree("http", [0, 1, 4] + signs("http") + [0, 0])

    def test_examples_with_marks(self):
        self.assertFault(signs(mark(0), "/a"), 4, 1)
        self.assertFault(signs("http://", mark(0)), 5, 7)
        self.assertFault(signs("%", mark(0)), 5, 1)


class Dots(LinkCase):
    def test_dots_alone_cannot_stand(self):
        for text, place in ((".", 1), ("..", 2), ("/.", 2), ("/..", 3), ("./a", 1), ("../a", 2), (".?", 1), ("..#", 2)):
            with self.subTest(text=text):
                self.assertFault(text, 3, place)

    def test_dots_alone_in_a_whole_link(self):
        self.assertFault("http://a/.", 3, 10)
        self.assertFault("http://a/../b", 3, 11)

    def test_dots_with_marks_cannot_stand(self):
        self.assertFault(signs(mark(0), "."), 3, 2)
        self.assertFault(signs(".", mark(0), "."), 3, 3)
        self.assertFault(signs("a/", mark(0), ".", mark(1), ".", mark(2), "/b"), 3, 7)

    def test_more_than_dots_can_stand(self):
        for text in ("...", ".a", "a.", "..a", "%2E", "%2e%2e", ".%2E", "%2E.", ".-", "...."):
            with self.subTest(text=text):
                self.assertLoads(text)
        self.assertLoads(mark(0))
        self.assertLoads(signs("..", mark(0), "."))

    def test_a_percent_form_counts_for_its_segment_alone(self):
        self.assertFault("%2E/.", 3, 5)
        self.assertFault("a?b#c%", 6, 6)

    def test_dots_alone_stand_outside_segments(self):
        for text in ("?.", "?a=..", "#.", "?..&.=.#.."):
            with self.subTest(text=text):
                self.assertLoads(text)

    def test_a_percent_begun_behind_a_dot_is_cut_short(self):
        self.assertFault(".%", 6, 2)
        self.assertFault("..%2", 6, 4)


class FirstSegment(LinkCase):
    def test_relative(self):
        self.assertLoads("a//b")
        self.assertLoads("%41/b")
        self.assertLoads(signs(mark(0), "a/b"))
        self.assertFault(signs(mark(0), mark(1), "/"), 4, 2)

    def test_rooted(self):
        self.assertLoads("/")
        self.assertLoads("/a//b")
        self.assertLoads("/a/")
        self.assertLoads(signs("/", mark(0)))
        self.assertLoads(signs("/", mark(0), "?", mark(0), "#"))
        self.assertFault("//", 4, 1)
        self.assertFault(signs("/", mark(0), "/a"), 4, 2)

    def test_whole_links_are_not_asked(self):
        self.assertLoads("http://a//b")
        self.assertLoads("http://a///")
        self.assertLoads(signs("http://a/", mark(0), "/b"))


class Kinds(LinkCase):
    def test_stray_bytes_of_a_segment(self):
        for sign in range(256):
            letter = signs("az", "AZ", "09", "-_~", ".")
            plain = 97 <= sign <= 122 or 65 <= sign <= 90 or 48 <= sign <= 57 or sign in letter
            with self.subTest(sign=sign):
                if plain or sign in signs("/?#"):
                    self.assertLoads([97, sign, 97])
                elif sign == 37:
                    self.assertFault([97, sign, 103], 1, 2)
                else:
                    self.assertFault([97, sign, 97], 1, 1)

    def test_stray_bytes_of_a_name(self):
        for sign in " /?:@%!+\"\x00\x7f\xff":
            text = signs("?a", sign, "~")
            with self.subTest(sign=sign):
                self.assertFault(text, 1, 3 if sign == "%" else 2)

    def test_stray_bytes_of_a_value(self):
        for sign in " /?:@=!+\xff":
            with self.subTest(sign=sign):
                self.assertFault(signs("?a=b", sign), 1, 4)

    def test_stray_bytes_of_a_fragment(self):
        for sign in " /?:@=&#!+\xff":
            with self.subTest(sign=sign):
                self.assertFault(signs("#b", sign), 1, 2)

    def test_stray_signs_behind_the_scheme(self):
        self.assertFault("http:a", 1, 5)
        self.assertFault("http::", 1, 5)
        self.assertFault("http?:", 1, 5)
        self.assertFault("https:?", 1, 6)
        self.assertFault(signs("http:", mark(0)), 5, 5)
        self.assertFault("https:/a", 1, 7)
        self.assertFault(signs("http:/", mark(0)), 5, 6)
        self.assertFault("http:///", 1, 7)

    def test_a_colon_elsewhere(self):
        for text, place in (("htt:", 3), ("httpss:", 6), ("Http:", 4), ("/http:", 5), ("a/http:", 6), (":", 0),
                            ("http%41:", 7), ("httpa:", 5), ("http/a:", 6), ("http://a/http:", 13), ("hhttp:", 5)):
            with self.subTest(text=text):
                self.assertFault(text, 1, place)
        self.assertFault(signs("http", mark(0), ":"), 1, 5)
        self.assertFault(signs(mark(0), "http:"), 1, 5)

    def test_stray_signs_of_a_host(self):
        for text, place in (("http://.a", 7), ("http://a..b", 9), ("http://:1", 7), ("http:///a", 7), ("http://?", 7),
                            ("http://#", 7), ("http://aB", 8), ("http://a_b", 8), ("http://a%41", 8),
                            ("http://a~", 8), ("http://a.:1", 9), ("http://a./", 9), ("http://a&", 8),
                            ("http://a@b", 8), ("http://a=", 8)):
            with self.subTest(text=text):
                self.assertFault(text, 1, place)
        self.assertFault(signs("http://a", mark(5)), 5, 8)

    def test_stray_signs_of_a_port(self):
        for text, place in (("http://a:/", 9), ("http://a:?", 9), ("http://a:#", 9), ("http://a:b", 9),
                            ("http://a:1a", 10), ("http://a:1:", 10), ("http://a:1.", 10), ("http://a::", 9)):
            with self.subTest(text=text):
                self.assertFault(text, 1, place)
        self.assertFault(signs("http://a:", mark(0)), 5, 9)
        self.assertFault(signs("http://a:1", mark(0)), 5, 10)

    def test_bad_ports(self):
        for text, place in (("http://a:00", 9), ("http://a:01", 9), ("http://a:65536", 13), ("http://a:100000", 14),
                            ("http://a:99999/b", 13)):
            with self.subTest(text=text):
                self.assertFault(text, 2, place)
        for text in ("http://a:1", "http://a:65535", "http://a:10/", "http://a:65530?", "https://a:9#"):
            with self.subTest(text=text):
                self.assertLoads(text)

    def test_long_labels(self):
        label = "a1-" * 21
        self.assertEqual(len(label), 63)
        self.assertLoads("http://" + label)
        self.assertFault("http://" + label + "a", 2, 70)
        self.assertLoads("http://" + label + "." + label + ":1/")
        self.assertFault("http://b." + label + "-/", 2, 72)
        self.assertFault("http://" + label + "A", 1, 70)

    def test_stray_signs_of_a_percent_form(self):
        for before in ("", "a/", "?", "?a=", "#", "http://a/"):
            place = len(before)
            with self.subTest(before=before):
                for digits in ("00", "09", "af", "AF", "fF", "9a"):
                    self.assertLoads(before + "%" + digits)
                self.assertFault(before + "%g0", 1, place + 1)
                self.assertFault(before + "%0G", 1, place + 2)
                self.assertFault(before + "%%41", 1, place + 1)
                self.assertFault(before + "%4/", 1, place + 2)
                self.assertFault(before + "%`0", 1, place + 1)
                self.assertFault(before + "%@0", 1, place + 1)
                self.assertFault(before + "%:0", 1, place + 1)
                self.assertFault(signs(before, "%4", mark(0)), 5, place + 2)

    def test_the_mode_before_the_percent_comes_again(self):
        self.assertFault("%41=", 1, 3)
        self.assertFault("?%41=%41=", 1, 8)
        self.assertFault("?%41/", 1, 4)
        self.assertFault("#%41#", 1, 4)
        self.assertLoads("a%41/b%41?c%41=d%41&e%41#f%41")

    def test_the_first_of_several_faults(self):
        self.assertFault("a b:c%", 1, 1)
        self.assertFault(signs("http://", mark(0), "A"), 5, 7)


class Ends(LinkCase):
    """Where a text may end, mode by mode."""

    def test_cut_short(self):
        for text in ("http:", "https:", "http:/", "https:/", "http://", "https://", "http://a.", "http://a:",
                     "%", "a%", "/%", "?%", "?a=%", "#%", "%4", "a/%4", "?%4", "?a=%4", "#%4", "http://a/%"):
            with self.subTest(text=text):
                self.assertFault(text, 6, len(text))

    def test_whole(self):
        for text in ("", "a", "a/", "/", "http", "https", "http://a", "http://a:1", "http://a/", "http://a/b", "?",
                     "?a", "?a=", "?a=b", "?&", "#", "#a", "?#", "?a=#", "%41", "http://a?", "http://a#",
                     "http://a:1?", "http://a:1#", "http://-"):
            with self.subTest(text=text):
                self.assertLoads(text)

    def test_marks_may_stand_in_every_content(self):
        self.assertLoads(signs("a", mark(0), "/", mark(1), "?", mark(2), "=", mark(65279), "&", mark(0), "#", mark(3)))


class Bounds(LinkCase):
    def test_longest_text(self):
        self.assertLoads("a" * 2048)
        self.assertFault("a" * 2047 + "%", 6, 2048)
        self.assertFault("a" * 2047 + "&", 1, 2047)
        self.assertEqual(run(load("a" * 2049)), [[-2]])

    def test_least_and_greatest_signs(self):
        self.assertFault([0], 1, 0)
        self.assertFault([255], 1, 0)
        self.assertLoads([256])
        self.assertLoads([65535])
        self.assertEqual(run(load([65536])), [[-1]])
        self.assertEqual(run(load([-1])), [[-1]])


class Held(LinkCase):
    def test_a_load_takes_the_place_of_all_that_was_held(self):
        self.assertHeld([load("https://a:1/b?c=d#e"), load("x")], [0], "x")
        self.assertHeld([load("a?b#c"), load("")], [0], "")

    def test_after_a_fault_of_each_kind_the_link_is_as_it_was(self):
        for text, kind, place in (("a:b", 1, 1), ("http://a:0", 2, 9), ("..", 3, 2), ("//", 4, 1),
                                  (signs("http:", mark(0)), 5, 5), ("%", 6, 1)):
            with self.subTest(kind=kind):
                self.assertKept([load("https://h:7/x?y=z#f")], load(text), [1, kind, place])

    def test_a_fault_on_a_new_object(self):
        self.assertEqual(run(load("a:"), tree(), written()), [[1, 1, 1], [0, 0, 1, 0, 0, 0], [0]])
