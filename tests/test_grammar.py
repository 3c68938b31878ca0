"""Short texts one by one against the grammar, which is told here a second time, as patterns.

A text loads if the grammar and the two things that are asked besides allow it. Otherwise the place of its fault is
the first one at which no link begins with the signs up to there.
"""

import functools
import itertools
import random
import re
import unittest

from tests.calling import add, change, drop, follow, fragment, get, load, pop, push, run, set_, signs, tree, written

TEXT = "(?:[a-zA-Z0-9_~.\u0100-\uffff-]|%[0-9a-fA-F]{2})*"
HOST = r"[a-z0-9-]{1,63}(?:\.[a-z0-9-]{1,63})*(?::(?P<port>[1-9][0-9]*))?"
PART = TEXT + "(?:=" + TEXT + ")?"
REST = r"(?:\?" + PART + "(?:&" + PART + ")*)?(?:#" + TEXT + ")?"
SEGMENTS = TEXT + "(?:/" + TEXT + ")*"
NEAR = re.compile("(?P<path>/?(?P<segments>" + SEGMENTS + "))" + REST)
WHOLE = re.compile("https?://" + HOST + "(?P<segments>(?:/" + TEXT + ")*)" + REST)
MARK = re.compile("[\u0100-\uffff]")
# With one of these behind it, every text that can go on becomes a link.
ENDINGS = ("", "a", "aa", "/a", "//a", "1")


def has_good_dots(segments):
    return all(MARK.sub("", segment) not in (".", "..") for segment in segments)


@functools.lru_cache(maxsize=None)
def is_link(text):
    whole = WHOLE.fullmatch(text)
    if whole:
        return int(whole["port"] or 1) <= 65535 and has_good_dots(whole["segments"].split("/"))
    near = NEAR.fullmatch(text)
    if not near:
        return False
    segments = near["segments"].split("/")
    if near["path"].startswith("//") or len(segments) > 1 and not MARK.sub("", segments[0]):
        return False
    return has_good_dots(segments)


@functools.lru_cache(maxsize=None)
def can_go_on(text):
    return any(is_link(text + ending) for ending in ENDINGS)


def expected_place(text):
    """None if the text is a link."""
    if is_link(text):
        return None
    for place in range(len(text)):
        if not can_go_on(text[:place + 1]):
            return place
    return len(text)


def texts_of(before, alphabet, longest):
    for length in range(longest + 1):
        for letters in itertools.product(alphabet, repeat=length):
            yield before + "".join(letters)


def in_bundles(texts, size):
    texts = iter(texts)
    while bundle := list(itertools.islice(texts, size)):
        yield bundle


class Places(unittest.TestCase):
    def check(self, texts):
        for bundle in in_bundles(texts, 200):
            for text, answer in zip(bundle, run(*[load(text) for text in bundle])):
                place = expected_place(text)
                found = answer[2] if answer[0] == 1 else None
                self.assertEqual(found, place, repr(text))
                if place is not None:
                    self.check_kind(text, answer[1], place)

    def check_kind(self, text, kind, place):
        if place == len(text):
            self.assertIn(kind, (3, 6), repr(text))
        elif ord(text[place]) >= 256:
            self.assertEqual(kind, 5, repr(text))
        else:
            self.assertIn(kind, (1, 2, 3, 4), repr(text))

    def test_from_the_beginning(self):
        self.check(texts_of("", "a./?#:\u0100%", 5))

    def test_in_a_query(self):
        self.check(texts_of("a?", "a.&=#%/\u0100", 5))

    def test_behind_http(self):
        self.check(texts_of("http", "s:/a.", 6))

    def test_in_a_host(self):
        self.check(texts_of("http://", "a.:/?#06\u0100", 4))

    def test_in_a_port(self):
        self.check(texts_of("https://a:", "0156/", 6))

    def test_in_a_whole_link(self):
        self.check(texts_of("http://a", "./a%?:\u0100", 5))

    def test_percent_forms(self):
        self.check(texts_of("", "%2E./g", 6))


class RoundTrips(unittest.TestCase):
    """What is held is written so that it is read as the same tree."""

    def test_random_calls(self):
        source = random.Random(1)
        for turn in range(400):
            calls = [load(source.choice(("", "/", "a/b", "/a?b", "http://a", "https://a.b:80/c?d=e#f", "x#y")))]
            for step in range(source.randint(0, 8)):
                calls.append(self.random_call(source))
            found = run(*calls, tree(), written())
            form = found[-1][1:]
            self.assertEqual(run(load(form), tree(), written()), [[0]] + found[-2:], calls)

    def random_call(self, source):
        def text():
            return [source.choice(signs("aA..//?#%:=&", [0, 255, 256, 300])) for i in range(source.randint(0, 3))]

        return source.choice((
            lambda: change(source.randint(0, 2), text()), lambda: push(text()), lambda: set_(text(), text()),
            lambda: add(text(), text()), lambda: drop(text()), lambda: get(text()), pop,
            lambda: fragment(source.randint(0, 1), text()), lambda: follow(source.choice(("", "x", "/", "?y", "x/y"))),
            lambda: follow(text()),
        ))()
