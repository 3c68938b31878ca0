"""What the tests share: how calls are made up and answers taken apart."""

import unittest

from percentlinks.holder import answers

HUGE = 10 ** 18


def mark(i):
    return [256 + i]


def signs(*pieces):
    """One list of signs out of texts and lists of signs."""
    joined = []
    for piece in pieces:
        joined.extend([ord(sign) for sign in piece] if isinstance(piece, str) else piece)
    return joined


def row(text):
    text = signs(text)
    return [len(text)] + text


def load(text):
    return [0] + row(text)


def written():
    return [1]


def tree():
    return [2]


def get(name):
    return [3] + row(name)


def set_(name, value):
    return [4] + row(name) + row(value)


def add(name, value):
    return [5] + row(name) + row(value)


def drop(name):
    return [6] + row(name)


def change(i, segment):
    return [7, i] + row(segment)


def push(segment):
    return [8] + row(segment)


def pop():
    return [9]


def cutquery():
    return [10]


def fragment(there, text):
    return [11, there] + row(text)


def follow(text):
    return [12] + row(text)


def read(text):
    return [13] + row(text)


def write(text):
    return [14] + row(text)


def marks(text):
    return [15] + row(text)


def state(text):
    return [16] + row(text)


def meet(first, second):
    return [17] + row(first) + row(second)


def escape(numbers):
    return [18] + row(numbers)


def put(text, data):
    return [19] + row(text) + row(data)


def fill(text, data):
    return [20] + row(text) + row(data)


def data_row(*data):
    """The data row that tells these data."""
    return [number for datum in data for number in row(datum)]


def run(*calls):
    """The answers to these calls on one new object, one list each."""
    told = answers([number for call in calls for number in call])
    found = []
    place = 0
    while place < len(told):
        behind = place + 1 + told[place]
        found.append(told[place + 1:behind])
        place = behind
    if place != len(told) or len(found) != len(calls):
        raise AssertionError("not one answer a call")
    return found


class LinkCase(unittest.TestCase):
    def assertAnswer(self, call, answer):
        """A new object answers the call so."""
        self.assertEqual(run(call), [answer], call)

    def assertFault(self, text, kind, place):
        self.assertEqual(run(load(text)), [[1, kind, place]], text)

    def assertLoads(self, text):
        self.assertEqual(run(load(text)), [[0]], text)

    def assertTree(self, text, numbers):
        """numbers: the flat form of the text's tree."""
        self.assertEqual(run(load(text), tree()), [[0], [0] + numbers], text)

    def assertHeld(self, calls, last_answer, form):
        """The last call answers so, and the held link is then written so."""
        found = run(*calls, written())
        self.assertEqual(found[-2], last_answer)
        self.assertEqual(found[-1], [0] + signs(form))

    def assertKept(self, before, call, answer):
        """The call answers so, and what the calls before it left stays as it was."""
        as_it_was = run(*before, tree(), written())[-2:]
        self.assertEqual(run(*before, call, tree(), written())[-3:], [answer] + as_it_was)
