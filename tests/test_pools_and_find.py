"""The calls pools and find: ordinary cards, the edges, wrong inputs, and the one text handed in."""

import unittest

from racecards.cards import find, pools
from tests.checks import CardTest
from tests.samples import DAY, FAULTS, MIXED, POOL, RACE, SMALL, TOO_LONG, large, pool, row

SIX_RACES = DAY + RACE * 6
COUPLED = DAY + "race 9 couple 1 9 couple 2 8\n"
NO_NAMES = (
    "", " ", "win ", " win", "w n", "Win", "WIN", "wIn", "1", "1win", "win\n", "win\x00", "\x00", "\x7f", "win\x7f",
    "\xff", "w\xefn", "win\xff", "abcdefghijklm", "x" * 13, "x" * 99, "x" * 100, "\xff" * 100, "win" + " " * 97,
)


def many(count):
    return "".join(pool(name=f"p{number}", take=number) for number in range(count))


class Pools(CardTest):
    def tells(self, numbers, text):
        self.assertEqual(self.tells_the_same(pools, text), [0] + numbers, text)

    def test_a_card_without_a_pool(self):
        self.tells([0], DAY + RACE)
        self.tells([0], DAY + RACE * 16)
        self.tells([0], COUPLED)

    def test_a_card_with_a_pool(self):
        self.tells([1, 0, 1, 1, 0, 150, 10, 100, 100, 3, 119, 105, 110], SMALL)
        self.tells([1, 0, 1, 1, 0, 150, 10, 100, 100, 3, 119, 105, 110], COUPLED + POOL)

    def test_a_card_with_all_kinds_and_all_words_of_none(self):
        self.tells(
            [
                5,
                0, 4, 1, 1, 0, 1, 0, 1, 1, 100,
                1, 2, 3, 2, 400, 1000, 20000, 10000, 3, 101, 120, 50,
                2, 3, 1, 0, 7, 50, 150, 100, 8, 116, 114, 49, 102, 51, 99, 116, 97,
                3, 2, 2, 1, 250, 5, 2, 1, 2, 112, 54,
                0, 1, 2, 0, 1, 1, 0, 10000, 1, 119,
            ],
            MIXED,
        )

    def test_each_number_stands_at_its_place(self):
        text = SIX_RACES + pool(name="a", kind="legs", k=4, race=3, take=5, brk=6, least=8, unit=7, none="fewer")
        self.tells([1, 3, 4, 3, 2, 5, 6, 8, 7, 1, 97], text)
        text = SIX_RACES + pool(name="z9", kind="any", k=3, race=6, take=11, brk=12, least=14, unit=13, none="carry")
        self.tells([1, 2, 3, 6, 1, 11, 12, 14, 13, 2, 122, 57], text)

    def test_every_kind_with_every_k_and_word_of_none(self):
        kinds = (("place", 1, 4), ("order", 2, 4), ("any", 2, 3), ("legs", 2, 6))
        for kind, (word, low, high) in enumerate(kinds):
            for k in range(low, high + 1):
                for none, name in enumerate(("refund", "carry", "fewer")):
                    if (word, name) != ("place", "fewer"):
                        text = SIX_RACES + pool(kind=word, k=k, none=name)
                        self.tells([1, kind, k, 1, none, 150, 10, 100, 100, 3] + row("win"), text)

    def test_the_edges_of_the_numbers(self):
        for race in (1, 6):
            self.tells([1, 0, 1, race, 0, 150, 10, 100, 100, 3] + row("win"), SIX_RACES + pool(race=race))
        for take, brk, least, unit in ((0, 1, 0, 1), (400, 1000, 20000, 10000), (1, 2, 2, 1), (399, 999, 0, 10000)):
            text = SIX_RACES + pool(take=take, brk=brk, least=least, unit=unit)
            self.tells([1, 0, 1, 1, 0, take, brk, least, unit, 3] + row("win"), text)
        text = DAY + RACE * 16 + pool(race=16) + pool(name="p6", kind="legs", k=6, race=11)
        numbers = [0, 1, 16, 0, 150, 10, 100, 100, 3] + row("win")
        self.tells([2] + numbers + [3, 6, 11, 0, 150, 10, 100, 100, 2, 112, 54], text)

    def test_names_of_1_and_of_12_bytes(self):
        for name in ("a", "z", "abcdefghijkl", "z12345678901"):
            self.tells([1, 0, 1, 1, 0, 150, 10, 100, 100, len(name)] + row(name), DAY + RACE + pool(name=name))

    def test_64_pools_as_they_come(self):
        told = []
        for number in range(64):
            name = row(f"p{number}")
            told += [0, 1, 1, 0, number, 10, 100, 100, len(name)] + name
        self.tells([64] + told, DAY + RACE + many(64))

    def test_the_largest_card(self):
        told = []
        for number in range(64):
            kind = number % 4
            rules = [kind, (2, 4, 3, 6)[kind], number % 11 + 1, (0, 1, 0, 2)[kind], 400, 1000, 20000, 10000]
            told += rules + [12] + row(f"abcdefghij{number:02}")
        self.tells([64] + told, large())

    def test_pools_are_not_sorted(self):
        told = [0, 1, 1, 0, 150, 10, 100, 100, 1]
        names = (("b", 98), ("c", 99), ("a", 97))
        text = DAY + RACE + "".join(pool(name=name) for name, byte in names)
        self.tells([3] + [number for name, byte in names for number in told + [byte]], text)

    def test_refusals(self):
        self.refuses(pools)

    def test_pools_in_front_of_a_fault_are_not_told(self):
        for text in (SMALL + POOL, SMALL + RACE, SMALL + "pool", SMALL + "\n", DAY + RACE + many(64) + POOL):
            self.assertEqual(pools(row(text)), [-6])


class Find(CardTest):
    def finds(self, number, name, text):
        answer = self.tells_the_same(lambda told: find(told, row(name)), text)
        self.assertEqual(answer, [0, number], name)

    def finds_none(self, name, text):
        answer = self.tells_the_same(lambda told: find(told, row(name)), text)
        self.assertEqual(answer, [-4], name)

    def test_number_by_number(self):
        self.assertEqual(find(row(SMALL), [119, 105, 110]), [0, 0])
        self.assertEqual(find(row(SMALL), [119, 105, 109]), [-4])

    def test_each_pool_of_a_card(self):
        for number, name in enumerate(("d", "ex2", "tr1f3cta", "p6", "w")):
            self.finds(number, name, MIXED)

    def test_the_first_one_in_the_middle_and_the_last_of_64(self):
        text = DAY + RACE + many(64)
        for number in (0, 1, 31, 32, 62, 63):
            self.finds(number, f"p{number}", text)
            self.finds(number, f"abcdefghij{number:02}", large())
        self.finds_none("p64", text)
        self.finds_none("abcdefghij64", large())

    def test_pools_are_numbered_as_they_come(self):
        text = DAY + RACE + pool(name="c") + pool(name="a") + pool(name="b")
        for number, name in enumerate(("c", "a", "b")):
            self.finds(number, name, text)

    def test_a_name_that_none_has(self):
        for name in ("lose", "win1", "place", "refund", "pool", "race", "w1n"):
            self.finds_none(name, SMALL)
        for name in ("a", "win", "monday", "8"):
            self.finds_none(name, DAY + RACE)

    def test_the_days_name(self):
        self.finds_none("monday", SMALL)
        self.finds_none("monday", DAY + RACE)
        self.finds(0, "d", MIXED)
        self.finds(2, "monday", DAY + RACE + pool(name="a") + pool(name="b") + pool(name="monday"))

    def test_words_of_the_grammar_that_are_names(self):
        text = DAY + RACE + pool(name="pool") + pool(name="place") + pool(name="none")
        self.finds(0, "pool", text)
        self.finds(1, "place", text)
        self.finds(2, "none", text)
        self.finds_none("race", text)

    def test_names_that_are_no_names(self):
        for name in NO_NAMES:
            self.assertLessEqual(len(row(name)), 100)
            for text in (SMALL, DAY + RACE, MIXED, large()):
                self.finds_none(name, text)

    def test_every_byte_by_itself(self):
        text = row(DAY + RACE + pool(name="a") + pool(name="z"))
        for byte in range(256):
            wanted = {97: [0, 0], 122: [0, 1]}.get(byte, [-4])
            self.assertEqual(find(text, [byte]), wanted)

    def test_names_that_begin_alike(self):
        for name in ("w", "wi", "winn", "win0", "wina"):
            self.finds_none(name, SMALL)
        text = DAY + RACE + pool(name="win") + pool(name="w") + pool(name="winn") + pool(name="wi")
        for number, name in enumerate(("win", "w", "winn", "wi")):
            self.finds(number, name, text)
        self.finds_none("winnn", text)
        self.finds_none("in", text)

    def test_names_of_12_bytes(self):
        text = DAY + RACE + pool(name="abcdefghijkl")
        self.finds(0, "abcdefghijkl", text)
        self.finds_none("abcdefghijk", text)
        self.finds_none("abcdefghijklm", text)
        self.finds_none("abcdefghijkm", text)

    def test_refusals_whatever_the_name_is(self):
        for name in ("win", "monday", "", "lose", "Win", "\xff" * 100):
            self.refuses(lambda text, name=name: find(text, row(name)))

    def test_a_texts_refusal_comes_before_the_names(self):
        for name in NO_NAMES:
            self.assertEqual(find(row(TOO_LONG), row(name)), [-2])
            for text in FAULTS.values():
                self.assertEqual(find(row(text), row(name)), [-6])


if __name__ == "__main__":
    unittest.main()
