"""The calls heads and orders: ordinary cards and numbers, the edges, wrong inputs, and the one text handed in."""

import math
import unittest

from racecards.cards import heads, orders, races
from tests.checks import CardTest
from tests.samples import DAY, EIGHT_COUPLES, FAULTS, MIXED, POOL, RACE, SMALL, TOO_LONG, large, row

GREATEST = 4294967295
NO_RACES = (0, 17, 18, 255, 256, 257, 65537, 2147483648, 4294967294, GREATEST)


class Heads(CardTest):
    def tells(self, runners, race, text):
        answer = self.tells_the_same(lambda told: heads(race, told), text)
        self.assertEqual(answer, [0] + runners, text)

    def has_no_race(self, race, text):
        answer = self.tells_the_same(lambda told: heads(race, told), text)
        self.assertEqual(answer, [-1], race)

    def test_a_race_without_couples(self):
        self.tells([1, 2], 1, DAY + "race 2\n")
        self.tells([1, 2, 3, 4, 5, 6, 7, 8], 1, SMALL)
        self.tells(list(range(1, 25)), 1, DAY + "race 24\n")

    def test_a_race_with_one_couple(self):
        self.tells([1], 1, DAY + "race 2 couple 1 2\n")
        self.tells([1, 2, 3, 4, 6, 7, 8], 1, DAY + "race 8 couple 3 5\n")
        self.tells(list(range(1, 24)), 1, DAY + "race 24 couple 23 24\n")

    def test_a_race_with_8_couples(self):
        self.tells(list(range(1, 13)) + [21, 22, 23, 24], 1, f"{DAY}race 24 {EIGHT_COUPLES}\n")
        couples = " ".join(f"couple {a} {a + 1}" for a in range(15, 0, -2))
        self.tells([1, 3, 5, 7, 9, 11, 13, 15], 1, f"{DAY}race 16 {couples}\n")

    def test_several_b_with_one_a(self):
        self.tells([1, 2, 4, 6, 7], 1, DAY + "race 8 couple 2 8 couple 2 3 couple 2 5\n")
        couples = " ".join(f"couple 1 {b}" for b in range(2, 10))
        self.tells([1], 1, f"{DAY}race 9 {couples}\n")
        self.tells([1, 10], 1, f"{DAY}race 10 {couples}\n")

    def test_couples_that_dont_come_by_b_rising(self):
        self.tells([1, 3, 5], 1, DAY + "race 6 couple 5 6 couple 3 4 couple 1 2\n")
        self.tells([1, 2, 3, 4, 5, 6], 1, DAY + "race 9 couple 1 9 couple 2 8 couple 3 7\n")
        self.tells([1, 2, 3], 1, DAY + "race 7 couple 1 6 couple 2 4 couple 3 7 couple 1 5\n")

    def test_each_race_of_a_card(self):
        self.tells([1, 2, 5, 6, 7, 8] + list(range(10, 24)), 1, MIXED)
        self.tells([1], 2, MIXED)
        self.tells(list(range(1, 11)), 3, MIXED)
        self.has_no_race(4, MIXED)

    def test_races_1_to_16(self):
        lines = "".join(f"race {runners} couple 1 {runners}\n" for runners in range(2, 18))
        for race in range(1, 17):
            self.tells(list(range(1, race + 1)), race, DAY + lines)
            self.tells(list(range(1, 13)) + [21, 22, 23, 24], race, large())
        for race in NO_RACES:
            self.has_no_race(race, DAY + lines)
            self.has_no_race(race, large())

    def test_no_such_race(self):
        for text in (DAY + RACE, SMALL, DAY + "race 2 couple 1 2\n"):
            for race in (2, 3, 16) + NO_RACES:
                self.has_no_race(race, text)
        for count in range(1, 17):
            self.tells([1, 2, 3, 4, 5, 6, 7, 8], count, DAY + RACE * count)
            self.has_no_race(count + 1, DAY + RACE * count + POOL)

    def test_as_many_as_runners_less_couples(self):
        for text in (SMALL, MIXED, large(), DAY + "race 9 couple 1 9 couple 2 8 couple 1 7\nrace 4 couple 3 4\n"):
            told = races(row(text))
            at = 2
            for race in range(1, told[1] + 1):
                self.assertEqual(len(heads(race, row(text))) - 1, told[at] - told[at + 1])
                at += 2 + 2 * told[at + 1]

    def test_refusals_whatever_the_race_is(self):
        for race in (0, 1, 2, 16, 17, GREATEST):
            self.refuses(lambda text, race=race: heads(race, text))

    def test_a_texts_refusal_comes_before_the_races(self):
        for race in NO_RACES:
            self.assertEqual(heads(race, row(TOO_LONG)), [-2])
            for text in FAULTS.values():
                self.assertEqual(heads(race, row(text)), [-6])


class Orders(unittest.TestCase):
    def tells(self, number, n, k):
        self.assertEqual(orders(n, k), [0, number], (n, k))

    def test_ordinary_numbers(self):
        self.tells(20, 5, 2)
        self.tells(24, 4, 3)
        self.tells(504, 9, 3)
        self.tells(255024, 24, 4)
        self.tells(2432902008176640000, 20, 20)

    def test_k_0(self):
        for n in (0, 1, 2, 63, 64, 65, 100, GREATEST):
            self.tells(1, n, 0)

    def test_k_1(self):
        for n in (0, 1, 2, 24, 63, 64, 65, 100, 2147483648, GREATEST):
            self.tells(n, n, 1)

    def test_k_n(self):
        factorials = [1, 1, 2, 6, 24, 120, 720, 5040, 40320, 362880, 3628800]
        for n, number in enumerate(factorials):
            self.tells(number, n, n)
        self.tells(2 ** 63, 64, 64)

    def test_k_above_n(self):
        for n in (0, 1, 2, 9, 20, 61, 62, 63):
            for k in (n + 1, n + 2, 64, 65, 100, GREATEST):
                if k > n:
                    self.tells(0, n, k)

    def test_k_above_64_is_taken_for_64(self):
        for n in (0, 1, 63, 64, 65, 66, 100, 127, 128, 1000, GREATEST - 1, GREATEST):
            for k in (65, 66, 100, 127, 128, 256, 320, 65536, 2147483648, GREATEST - 1, GREATEST):
                self.assertEqual(orders(n, k), orders(n, 64), (n, k))

    def test_n_about_64_with_k_about_64(self):
        for k in (64, 65, GREATEST):
            self.tells(0, 63, k)
            self.tells(2 ** 63, 64, k)
            self.tells(2 ** 63, 65, k)
            self.tells(2 ** 63, 100, k)
            self.tells(2 ** 63, GREATEST, k)
        self.tells(math.perm(63, 63) % 2 ** 64, 63, 63)
        self.tells(math.perm(64, 63) % 2 ** 64, 64, 63)
        self.tells(math.perm(65, 63) % 2 ** 64, 65, 63)

    def test_products_above_2_to_the_64(self):
        self.tells(14197454024290336768, 21, 21)
        self.tells(18446744060824649730, GREATEST, 2)
        # With x for 2^32: (x - 1) (x - 2) (x - 3) is 11 x - 6 but for multiples of x^2.
        self.tells(11 * 2 ** 32 - 6, GREATEST, 3)

    def test_0_modulo_2_to_the_64_although_k_is_not_above_n(self):
        for n, k in ((128, 64), (128, 65), (191, 64), (191, GREATEST), (2147483648, 40), (4294967168, 64)):
            self.assertGreater(math.perm(n, min(k, 64)), 0)
            self.tells(0, n, k)

    def test_held_against_another_reckoning(self):
        numbers = list(range(0, 131)) + [255, 256, 65535, 65536, 2147483647, 2147483648, GREATEST - 63, GREATEST]
        for n in numbers:
            for k in numbers:
                self.tells(math.perm(n, min(k, 64)) % 2 ** 64, n, k)


if __name__ == "__main__":
    unittest.main()
