"""What the tests ask of a text; "@" in a text marks the place of its fault and is taken out."""

import unittest

from racecards.cards import day, find, heads, judge, one_text, pools, races
from tests.samples import FAULTS, TOO_LONG, judged, row, written


def find_win(text):
    return find(text, row("win"))


def find_no_name(text):
    return find(text, [])


def first_heads(text):
    return heads(1, text)


def no_heads(text):
    return heads(0, text)


# All calls with a text but judge, as calls of a text alone: of a text with a fault they answer -6 alone.
TELLING_CALLS = (one_text, day, races, pools, find_win, find_no_name, first_heads, no_heads)


class CardTest(unittest.TestCase):
    def is_card(self, text, one=None):
        self.assertEqual(judged(text), [0], text[-200:])
        self.assertEqual(written(text), [0, text if one is None else one])

    def has_fault(self, kind, marked):
        place = marked.index("@")
        text = row(marked[:place] + marked[place + 1:])
        self.assertEqual(judge(text), [-6, kind, place], marked[-200:])
        for call in TELLING_CALLS:
            self.assertEqual(call(text), [-6], marked[-200:])

    def refuses(self, call):
        """-2 of a text that's too long, -6 of one with a fault of whatever kind, and nothing behind it."""
        for kind, text in FAULTS.items():
            self.assertEqual(judged(text)[:2], [-6, kind])
            self.assertEqual(call(row(text)), [-6], kind)
        self.assertEqual(len(row(TOO_LONG)), 65537)
        for text in (row(TOO_LONG), [0] * 65537, [10] * 65537, [32] * 66000, [255] * 66000):
            self.assertEqual(call(text), [-2])
        for text in (row(TOO_LONG[:-1]), [0] * 65536, [10] * 65536, []):
            self.assertEqual(call(text), [-6])

    def tells_the_same(self, call, text):
        """Of the card's one text the call answers what it answers of the text; gives the answer back."""
        answer = call(row(text))
        self.assertEqual(call(one_text(row(text))[1:]), answer, text)
        return answer
