"""The calls day and races: ordinary cards, the edges, wrong inputs, and the one text handed in."""

import unittest

from racecards.cards import day, races
from tests.checks import CardTest
from tests.samples import DAY, EIGHT_COUPLES, MIXED, POOL, RACE, SMALL, large, pool, row


class Day(CardTest):
    def is_called(self, name, text):
        self.assertEqual(self.tells_the_same(day, text), [0] + row(name))

    def test_number_by_number(self):
        text = [100, 97, 121, 32, 115, 117, 110, 53, 10, 114, 97, 99, 101, 32, 50, 10]
        self.assertEqual(day(text), [0, 115, 117, 110, 53])

    def test_ordinary_cards(self):
        self.is_called("monday", DAY + RACE)
        self.is_called("monday", SMALL)
        self.is_called("d", MIXED)
        self.is_called("abcdefghijkl", large())

    def test_names_of_1_and_of_12_bytes(self):
        for name in ("a", "z", "m", "abcdefghijkl", "z12345678901", "zzzzzzzzzzzz"):
            self.is_called(name, f"day {name}\n" + RACE)
            self.is_called(name, f"day {name}\n" + RACE + POOL)

    def test_names_of_all_lengths(self):
        for count in range(1, 13):
            self.is_called("s0m3l0ngname"[:count], f"day {'s0m3l0ngname'[:count]}\n" + RACE)

    def test_a_name_that_is_a_pools_too(self):
        self.is_called("win", "day win\n" + RACE + pool(name="win"))
        self.is_called("b", "day b\n" + RACE + pool(name="a") + pool(name="b") + pool(name="c"))

    def test_a_word_of_the_grammar(self):
        for name in ("day", "race", "pool", "couple", "none"):
            self.is_called(name, f"day {name}\n" + RACE + POOL)

    def test_refusals(self):
        self.refuses(day)

    def test_a_name_in_front_of_a_fault_is_not_told(self):
        for text in (DAY, DAY + "race 1\n", SMALL + "x", SMALL + "\n", "day monday x\n" + RACE, "day 1\n" + RACE):
            self.assertEqual(day(row(text)), [-6])


class Races(CardTest):
    def tells(self, numbers, text):
        self.assertEqual(self.tells_the_same(races, text), [0] + numbers, text)

    def test_number_by_number(self):
        text = row("day a\nrace 5 couple 2 3\nrace 2\n")
        self.assertEqual(races(text), [0, 2, 5, 1, 2, 3, 2, 0])

    def test_ordinary_cards(self):
        self.tells([1, 8, 0], DAY + RACE)
        self.tells([1, 8, 0], SMALL)
        self.tells([3, 24, 4, 2, 3, 1, 4, 2, 9, 20, 24, 2, 1, 1, 2, 10, 0], MIXED)

    def test_the_largest_card(self):
        one = [24, 8, 1, 13, 2, 14, 3, 15, 4, 16, 5, 17, 6, 18, 7, 19, 8, 20]
        self.tells([16] + one * 16, large())

    def test_1_race_and_16(self):
        self.tells([1, 2, 0], DAY + "race 2\n")
        self.tells([1, 24, 0], DAY + "race 24\n")
        self.tells([16] + [8, 0] * 16, DAY + RACE * 16)
        self.tells([16] + [8, 0] * 16, DAY + RACE * 16 + POOL)

    def test_races_as_they_come(self):
        lines = "".join(f"race {runners}\n" for runners in range(17, 1, -1))
        self.tells([16] + [number for runners in range(17, 1, -1) for number in (runners, 0)], DAY + lines)

    def test_no_couple_one_and_eight(self):
        self.tells([1, 24, 0], DAY + "race 24\n")
        self.tells([1, 24, 1, 23, 24], DAY + "race 24 couple 23 24\n")
        told = [24, 8, 1, 13, 2, 14, 3, 15, 4, 16, 5, 17, 6, 18, 7, 19, 8, 20]
        self.tells([1] + told, f"{DAY}race 24 {EIGHT_COUPLES}\n")

    def test_couples_that_dont_come_by_b_rising(self):
        self.tells([1, 6, 3, 1, 2, 3, 4, 5, 6], DAY + "race 6 couple 5 6 couple 3 4 couple 1 2\n")
        self.tells([1, 9, 3, 3, 7, 2, 8, 1, 9], DAY + "race 9 couple 1 9 couple 2 8 couple 3 7\n")
        self.tells([1, 24, 3, 1, 9, 1, 10, 2, 24], DAY + "race 24 couple 1 10 couple 2 24 couple 1 9\n")

    def test_eight_couples_turned_round(self):
        couples = " ".join(f"couple {a} {a + 12}" for a in range(8, 0, -1))
        told = [number for a in range(1, 9) for number in (a, a + 12)]
        self.tells([1, 24, 8] + told, f"{DAY}race 24 {couples}\n")

    def test_several_b_with_one_a(self):
        self.tells([1, 8, 3, 2, 3, 2, 5, 2, 8], DAY + "race 8 couple 2 8 couple 2 3 couple 2 5\n")
        couples = " ".join(f"couple 1 {b}" for b in range(9, 1, -1))
        told = [number for b in range(2, 10) for number in (1, b)]
        self.tells([1, 9, 8] + told, f"{DAY}race 9 {couples}\n")

    def test_each_race_by_itself(self):
        self.tells(
            [3, 4, 2, 1, 2, 3, 4, 3, 0, 5, 2, 1, 2, 1, 5],
            DAY + "race 4 couple 3 4 couple 1 2\nrace 3\nrace 5 couple 1 5 couple 1 2\n" + POOL,
        )

    def test_couples_that_come_otherwise_tell_the_same(self):
        first = DAY + "race 9 couple 1 9 couple 2 8 couple 2 5\n"
        second = DAY + "race 9 couple 2 5 couple 1 9 couple 2 8\n"
        self.assertEqual(races(row(first)), races(row(second)))

    def test_refusals(self):
        self.refuses(races)

    def test_races_in_front_of_a_fault_are_not_told(self):
        for text in (DAY + RACE + "race 8", DAY + RACE + "race 25\n", DAY + RACE * 17, SMALL + RACE, SMALL + POOL):
            self.assertEqual(races(row(text)), [-6])


if __name__ == "__main__":
    unittest.main()
