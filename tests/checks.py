"""What the tests ask of a text; "@" in a text marks the place of its fault and is taken out."""

import unittest

from racecards.cards import judge, one_text
from tests.samples import judged, row, written


class CardTest(unittest.TestCase):
    def is_card(self, text, one=None):
        self.assertEqual(judged(text), [0], text[-200:])
        self.assertEqual(written(text), [0, text if one is None else one])

    def has_fault(self, kind, marked):
        place = marked.index("@")
        text = row(marked[:place] + marked[place + 1:])
        self.assertEqual(judge(text), [-6, kind, place], marked[-200:])
        self.assertEqual(one_text(text), [-6], marked[-200:])
