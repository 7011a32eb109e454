"""The interface: names and arguments, whole numbers in lists, nothing changed, kept, printed, read or imported."""

import builtins
import contextlib
import inspect
import io
import sys
import unittest
from unittest import mock

from racecards import cards
from tests.checks import TELLING_CALLS
from tests.samples import DAY, MIXED, POOL, RACE, SMALL, large, row

ARGUMENTS = {
    "judge": ["text"], "one_text": ["text"], "day": ["text"], "races": ["text"], "pools": ["text"],
    "find": ["text", "name"], "heads": ["race", "text"], "orders": ["n", "k"],
}
# Each as a call of a text alone.
CALLS = (cards.judge,) + TELLING_CALLS
NUMBERS = (0, 1, 2, 3, 4, 16, 17, 63, 64, 65, 100, 4294967295)
NAMES = ("", "win", "d", "w", "monday", "Win", "\xff", "abcdefghij63", "x" * 100)
TEXTS = (
    "", "\n", "day monday", "day 1\n", DAY, DAY + RACE, SMALL, SMALL + POOL, SMALL + RACE, MIXED, large(),
    DAY + "race 9 couple 3 9 couple 2 8 couple 1 7\n", DAY + "race 9 couple 3 9 couple 2 9\n",
    DAY + "race 2 couple 1 2\n" + POOL.replace("place 1", "place 2"), DAY + RACE * 17,
    "x" * 65536, "x" * 65537, "".join(chr(byte) for byte in range(256)),
)


def refuse(*args, **kwargs):
    raise AssertionError("a call that must not be made")


class Untouched(list):
    """A list that fails as soon as it is changed."""

    append = clear = extend = insert = pop = remove = reverse = sort = refuse
    __setitem__ = __delitem__ = __iadd__ = __imul__ = refuse


class Interface(unittest.TestCase):
    def test_names_and_arguments(self):
        for name, arguments in ARGUMENTS.items():
            self.assertEqual(list(inspect.signature(getattr(cards, name)).parameters), arguments)
        self.assertEqual(cards.judge(text=row(SMALL)), [0])
        self.assertEqual(cards.one_text(text=row(SMALL)), [0] + row(SMALL))
        self.assertEqual(cards.day(text=row(SMALL)), [0] + row("monday"))
        self.assertEqual(cards.races(text=row(SMALL)), [0, 1, 8, 0])
        self.assertEqual(cards.pools(text=row(SMALL)), [0, 1, 0, 1, 1, 0, 150, 10, 100, 100, 3, 119, 105, 110])
        self.assertEqual(cards.find(text=row(SMALL), name=row("win")), [0, 0])
        self.assertEqual(cards.heads(race=1, text=row(SMALL)), [0, 1, 2, 3, 4, 5, 6, 7, 8])
        self.assertEqual(cards.orders(n=5, k=2), [0, 20])

    def is_row_of_whole_numbers(self, answer):
        self.assertIs(type(answer), list)
        self.assertEqual({type(number) for number in answer}, {int})

    def test_lists_of_whole_numbers(self):
        for call in CALLS:
            for text in TEXTS:
                self.is_row_of_whole_numbers(call(row(text)))
        for number in NUMBERS:
            self.is_row_of_whole_numbers(cards.heads(number, row(MIXED)))
            for k in NUMBERS:
                self.is_row_of_whole_numbers(cards.orders(number, k))
                self.assertEqual(len(cards.orders(number, k)), 2)

    def test_how_long_the_answers_are(self):
        for text in TEXTS:
            answer = cards.judge(row(text))
            self.assertEqual(len(answer), 3 if answer[0] == -6 else 1)
            answer = cards.one_text(row(text))
            self.assertEqual(len(answer), len(text) + 1 if answer[0] == 0 else 1)

    def test_what_is_handed_in_is_as_it_was(self):
        for call in CALLS:
            for text in TEXTS:
                handed = row(text)
                call(handed)
                self.assertEqual(handed, row(text))

    def test_a_name_that_is_handed_in_is_as_it_was(self):
        for text in TEXTS:
            for name in NAMES:
                handed = [row(text), row(name)]
                answer = cards.find(*handed)
                self.assertEqual(handed, [row(text), row(name)])
                self.assertEqual(cards.find(*handed), answer)
                self.assertEqual(cards.find(Untouched(handed[0]), Untouched(handed[1])), answer)

    def test_a_text_handed_in_with_a_race_is_as_it_was(self):
        for text in TEXTS:
            for race in NUMBERS:
                handed = row(text)
                answer = cards.heads(race, handed)
                self.assertEqual(handed, row(text))
                self.assertEqual(cards.heads(race, handed), answer)
                self.assertEqual(cards.heads(race, Untouched(handed)), answer)

    def test_what_is_handed_in_is_not_changed_for_a_while(self):
        for call in CALLS:
            for text in TEXTS:
                self.assertEqual(call(Untouched(row(text))), call(row(text)))

    def test_the_answer_is_a_list_of_its_own(self):
        for call in CALLS:
            text = row(SMALL)
            first = call(text)
            before = list(first)
            first.append(5)
            first[0] = 7
            self.assertEqual(text, row(SMALL))
            self.assertEqual(call(text), before)

    def test_the_same_call_gives_the_same_answer(self):
        first = [call(row(text)) for call in CALLS for text in TEXTS]
        again = [call(row(text)) for call in CALLS for text in TEXTS]
        self.assertEqual(first, again)
        turned = [call(row(text)) for call in reversed(CALLS) for text in reversed(TEXTS)]
        self.assertEqual(first, turned[::-1])

    def test_whatever_was_called_between(self):
        asked = [(call, row(text)) for call in CALLS for text in (SMALL, MIXED, SMALL + POOL, "x" * 65537)]
        first = [call(text) for call, text in asked]
        for between, other in asked:
            for number, (call, text) in enumerate(asked):
                between(other)
                cards.orders(number, number)
                self.assertEqual(call(text), first[number])

    def test_orders_whatever_was_called_between(self):
        first = {(n, k): cards.orders(n, k) for n in NUMBERS for k in NUMBERS}
        for n, k in reversed(list(first)):
            cards.heads(1, row(SMALL))
            cards.orders(k, n)
            self.assertEqual(cards.orders(n, k), first[n, k])
        cards.orders(5, 5).append(1)
        self.assertEqual(cards.orders(5, 5), [0, 120])

    def test_a_changed_text_is_read_anew(self):
        text = row(SMALL)
        self.assertEqual(cards.judge(text), [0])
        text[0] = 0
        self.assertEqual(cards.judge(text), [-6, 2, 0])
        text[0] = 100
        self.assertEqual(cards.judge(text), [0])

    def test_nothing_is_printed_read_or_imported(self):
        loaded = set(sys.modules)
        printed = io.StringIO()
        with contextlib.redirect_stdout(printed), contextlib.redirect_stderr(printed):
            with mock.patch.multiple(builtins, open=refuse, input=refuse, print=refuse, __import__=refuse):
                for call in CALLS:
                    for text in TEXTS:
                        call(row(text))
                cards.orders(100, 64)
        self.assertEqual(printed.getvalue(), "")
        self.assertEqual(set(sys.modules), loaded)


class Long(unittest.TestCase):
    """What is as long as its input is gone through by loops."""

    def answers(self, text):
        """All calls' answers, with room for forty calls within one another alone."""
        handed = row(text)
        limit = sys.getrecursionlimit()
        sys.setrecursionlimit(len(inspect.stack()) + 40)
        try:
            return [call(handed) for call in CALLS]
        finally:
            sys.setrecursionlimit(limit)

    def has_fault(self, kind, place, text):
        self.assertEqual(self.answers(text), [[-6, kind, place]] + [[-6]] * (len(CALLS) - 1))

    def test_many_words(self):
        couple = " couple 1 2"
        start = DAY + "race 8" + couple
        self.has_fault(3, 6, "day" + " x" * 32765 + "\n")
        self.has_fault(4, len(start + couple) - 1, start + couple * 5000 + "\n")

    def test_many_lines(self):
        self.has_fault(6, len(DAY + RACE * 16), DAY + RACE * 5000)

    def test_long_words(self):
        self.has_fault(4, 4, "day " + "x" * 65000 + "\n")
        self.has_fault(4, len(DAY + "race "), DAY + "race " + "1" * 65000 + "\n")
        self.has_fault(1, 65536, "x" * 65536)
        self.has_fault(3, 0, "x" * 65535 + "\n")

    def test_bytes_that_are_met_late(self):
        self.has_fault(2, 65534, "x" * 65534 + "\x00\n")
        self.has_fault(2, 65534, "x" * 65534 + " \n")

    def test_the_largest_card(self):
        told = self.answers(large())
        self.assertEqual(told, [call(row(large())) for call in CALLS])
        self.assertEqual(told[:2], [[0], [0] + row(large())])


if __name__ == "__main__":
    unittest.main()
