"""A1 to A4, asked of many texts that lie close to cards."""

import unittest

from racecards.cards import day, find, heads, judge, one_text, pools, races
from tests import second_telling
from tests.alterations import altered
from tests.checks import TELLING_CALLS
from tests.samples import DAY, FAULTS, MIXED, POOL, RACE, SMALL, large
from tests.second_reading import first_fault

CROWDED = DAY + "race 9 couple 3 4 couple 1 2 couple 3 9\nrace 2\n" + POOL
NAMES = (b"win", b"w", b"p6", b"d", b"monday", b"", b"Win", b"abcdefghijklm")
TAILS = (b"", b"race 8\n", b"\n", b"\x00", b"pool", b"day x\nrace 2\n", b"x" * 300)


def line_after(text, place):
    """Where the line of that place has ended."""
    return text.index(b"\n", place) + 1


class Promises(unittest.TestCase):
    def told(self, text):
        """judge's answer, held against the second reading."""
        fault = first_fault(text)
        answer = judge(list(text))
        self.assertEqual(answer, [0] if fault is None else [-6, *fault], text)
        return answer

    def is_one_card(self, text):
        once = one_text(list(text))
        self.assertEqual(once[0], 0)
        self.assertEqual(len(once), len(text) + 1)
        self.assertEqual(judge(once[1:]), [0])
        self.assertEqual(one_text(once[1:]), once)
        self.assertEqual(sorted(bytes(once[1:]).split()), sorted(text.split()))
        for told in (list(text), once[1:]):
            self.assertEqual(day(told), second_telling.day_answer(text), text)
            self.assertEqual(races(told), second_telling.races_answer(text), text)
            self.assertEqual(pools(told), second_telling.pools_answer(text), text)
            for name in NAMES:
                self.assertEqual(find(told, list(name)), second_telling.find_answer(text, name), text)
            for race in range(5):
                self.assertEqual(heads(race, told), second_telling.heads_answer(race, text), text)
        self.has_as_many_heads(list(text))

    def has_as_many_heads(self, text):
        """As many as there are runners less couples, in each race."""
        told = races(text)[1:]
        at = 1
        for race in range(1, told[0] + 1):
            runners, couples = told[at:at + 2]
            self.assertEqual(len(heads(race, text)), 1 + runners - couples)
            at += 2 + 2 * couples
        self.assertEqual(at, len(told))

    def counts_for_nothing(self, text, answer, tail):
        """What is behind the fault's line is put by the tail: the same is told."""
        if answer[1] in (1, 8):
            self.assertEqual(answer[2], len(text))
            return
        until = line_after(text, answer[2])
        self.assertEqual(judge(list(text[:until] + tail)), answer, text)

    def hold(self, card):
        cards = 0
        for number, text in enumerate(altered(card.encode())):
            answer = self.told(text)
            if answer == [0]:
                cards += 1
                self.is_one_card(text)
            else:
                call = TELLING_CALLS[number % len(TELLING_CALLS)]
                self.assertEqual(call(list(text)), [-6], text)
                self.counts_for_nothing(text, answer, TAILS[number % len(TAILS)])
        self.assertGreater(cards, 50)

    def test_near_a_small_card(self):
        self.hold(SMALL)

    def test_near_a_card_with_couples(self):
        self.hold(CROWDED)

    def test_near_a_card_with_all_kinds(self):
        self.hold(MIXED)

    def test_every_beginning_of_a_large_card(self):
        text = large().encode()
        for end in range(0, len(text), 7):
            self.told(text[:end])
        starts = [place + 1 for place in range(len(text)) if text[place] == 10]
        for end in starts[1:]:
            self.assertEqual(self.told(text[:end]), [0])

    def test_behind_a_faults_line_nothing_counts(self):
        for start in ("day 1\n", DAY + "race 25\n", DAY + RACE + "x\n", DAY + "\n", SMALL + POOL):
            answer = judge(list(start.encode()))
            for tail in TAILS:
                self.assertEqual(judge(list(start.encode() + tail)), answer)
                for call in TELLING_CALLS:
                    self.assertEqual(call(list(start.encode() + tail)), [-6])

    def test_of_a_cards_one_text_each_call_tells_the_same(self):
        turned = DAY + "race 24 " + " ".join(f"couple {9 - a} {25 - a}" for a in range(1, 9)) + "\nrace 2\n" + POOL
        for card in (DAY + RACE, SMALL, CROWDED, MIXED, turned, large()):
            text = list(card.encode())
            once = one_text(text)[1:]
            for call in (judge,) + TELLING_CALLS:
                self.assertEqual(call(once), call(text))
            for name in NAMES:
                self.assertEqual(find(once, list(name)), find(text, list(name)))
            for race in range(18):
                self.assertEqual(heads(race, once), heads(race, text))

    def test_behind_each_kind_of_fault_nothing_counts(self):
        for kind in (2, 3, 4, 5, 6, 7):
            answer = judge(list(FAULTS[kind].encode()))
            self.assertEqual(answer[:2], [-6, kind])
            for tail in TAILS:
                text = list(FAULTS[kind].encode() + tail)
                self.assertEqual(judge(text), answer)
                for call in TELLING_CALLS:
                    self.assertEqual(call(text), [-6])

    def test_the_second_reading_sees_all_kinds(self):
        seen = {first_fault(text) and first_fault(text)[0] for text in altered(CROWDED.encode())}
        self.assertEqual(seen | {6, 7}, {None, 1, 2, 3, 4, 5, 6, 7, 8})


if __name__ == "__main__":
    unittest.main()
