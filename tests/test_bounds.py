"""The edges that the document names, on both sides."""

import unittest

from racecards.cards import judge, one_text
from tests.checks import CardTest
from tests.samples import DAY, EIGHT_COUPLES, RACE, SMALL, large, pool, row

SIX_RACES = DAY + RACE * 6


class Counts(CardTest):
    def test_65536_bytes_are_looked_at(self):
        text = row(SMALL + "a" * (65536 - len(SMALL)))
        self.assertEqual(len(text), 65536)
        self.assertEqual(judge(text), [-6, 1, 65536])
        self.assertEqual(one_text(text), [-6])

    def test_65537_bytes_are_not(self):
        text = row(SMALL + "a" * (65537 - len(SMALL)))
        self.assertEqual(len(text), 65537)
        self.assertEqual(judge(text), [-2])
        self.assertEqual(one_text(text), [-2])

    def test_too_long_counts_before_every_fault(self):
        for text in ([0] * 65537, [10] * 65537, [32] * 66000, [255] * 66000):
            self.assertEqual(judge(text), [-2])
            self.assertEqual(one_text(text), [-2])
        self.assertEqual(judge([10] * 65536), [-6, 2, 0])

    def test_16_races_and_17(self):
        self.is_card(DAY + RACE * 16)
        self.has_fault(6, DAY + RACE * 16 + "@" + RACE)

    def test_64_pools_and_65(self):
        pools = "".join(pool(name=f"p{number}") for number in range(64))
        self.is_card(DAY + RACE + pools)
        self.has_fault(6, DAY + RACE + pools + "@" + pool(name="p64"))

    def test_8_couples_and_9(self):
        self.is_card(f"{DAY}race 24 {EIGHT_COUPLES}\n")
        self.has_fault(6, f"{DAY}race 24 {EIGHT_COUPLES} @couple 9 21\n")

    def test_8_couples_of_one_head_and_9(self):
        couples = " ".join(f"couple 1 {b}" for b in range(2, 10))
        self.is_card(f"{DAY}race 24 {couples}\n")
        self.has_fault(6, f"{DAY}race 24 {couples} @couple 1 10\n")

    def test_8_couples_in_each_line(self):
        self.is_card(DAY + f"race 24 {EIGHT_COUPLES}\n" * 16)

    def test_at_least_one_race(self):
        self.is_card(DAY + RACE)
        self.has_fault(8, DAY + "@")

    def test_no_pool_is_asked_for(self):
        self.is_card(DAY + RACE + RACE)


class Names(CardTest):
    def test_names_of_1_12_and_13_bytes(self):
        self.is_card("day a\n" + RACE + pool(name="z"))
        self.is_card("day abcdefghijkl\n" + RACE + pool(name="z12345678901"))
        self.has_fault(4, "day @abcdefghijklm\n" + RACE)
        self.has_fault(4, DAY + RACE + "pool @" + pool(name="z123456789012")[5:])

    def test_bytes_of_names(self):
        for name in ("a", "z", "a0", "z9", "aa", "az", "mid5", "x0a9z"):
            self.is_card(f"day {name}\n" + RACE + pool(name=name))
        for name in "0 9 1a A aB Z a- a_b a.b -a a` ` a{ { a/ a: / : ~ !".split():
            self.has_fault(4, f"day @{name}\n" + RACE)
            self.has_fault(4, DAY + RACE + "pool @" + pool(name=name)[5:])

    def test_the_first_and_the_last_byte_of_a_long_name(self):
        self.has_fault(4, "day @0bcdefghijkl\n" + RACE)
        self.has_fault(4, "day @abcdefghijkL\n" + RACE)


class Races(CardTest):
    def test_runners(self):
        for runners in (2, 3, 9, 10, 23, 24):
            self.is_card(f"{DAY}race {runners}\n")
        for runners in (0, 1, 25, 99, 100, 24000):
            self.has_fault(4, f"{DAY}race @{runners}\n")

    def test_a(self):
        self.is_card(DAY + "race 8 couple 1 8\n")
        self.is_card(DAY + "race 8 couple 7 8\n")
        self.has_fault(4, DAY + "race 8 couple @0 8\n")
        self.has_fault(4, DAY + "race 8 couple @9 8\n")
        self.has_fault(4, DAY + "race 8 couple 8 @8\n")
        self.has_fault(4, DAY + "race 8 couple 8 @9\n")

    def test_b(self):
        self.is_card(DAY + "race 8 couple 3 4\n")
        self.is_card(DAY + "race 24 couple 1 24\n")
        self.has_fault(4, DAY + "race 8 couple 3 @9\n")
        self.has_fault(4, DAY + "race 8 couple 3 @3\n")
        self.has_fault(4, DAY + "race 8 couple 3 @2\n")
        self.has_fault(4, DAY + "race 8 couple 3 @0\n")
        self.has_fault(4, DAY + "race 24 couple 1 @25\n")

    def test_the_bound_is_the_races_own(self):
        self.is_card(DAY + "race 2 couple 1 2\nrace 24 couple 23 24\n")
        self.has_fault(4, DAY + "race 24 couple 23 24\nrace 2 couple 1 @3\n")


class Rules(CardTest):
    def takes(self, word, right, wrong):
        """That word's number may be the right ones; the wrong ones are faults at the number."""
        for number in right:
            self.is_card(SIX_RACES + pool(**{word: number}))
        for number in wrong:
            line = pool(**{word: number})
            name = {"brk": "break", "race": "from"}.get(word, word)
            self.has_fault(4, SIX_RACES + line.replace(f" {name} ", f" {name} @"))

    def test_k_of_each_kind(self):
        for kind, low, high in (("place", 1, 4), ("order", 2, 4), ("any", 2, 3), ("legs", 2, 6)):
            for k in range(low, high + 1):
                self.is_card(SIX_RACES + pool(kind=kind, k=k))
            for k in (0, low - 1, high + 1, 10, 99999):
                self.has_fault(4, SIX_RACES + pool(kind=kind, k=f"@{k}"))

    def test_race(self):
        self.takes("race", (1, 2, 5, 6), (0, 7, 16, 60))

    def test_legs_last_race(self):
        for k in range(2, 7):
            self.is_card(SIX_RACES + pool(kind="legs", k=k, race=7 - k))
            self.has_fault(4, SIX_RACES + pool(kind="legs", k=k, race=f"@{8 - k}"))
        self.has_fault(4, SIX_RACES + pool(kind="legs", k=2, race="@6"))
        self.has_fault(4, SIX_RACES + pool(kind="legs", k=2, race="@7"))
        self.has_fault(4, DAY + RACE + pool(kind="legs", k=2, race="@1"))

    def test_other_kinds_have_one_race(self):
        for kind in ("place", "order", "any"):
            self.is_card(SIX_RACES + pool(kind=kind, k=3, race=6))

    def test_take(self):
        self.takes("take", (0, 1, 399, 400), (401, 1000, 4000))

    def test_brk(self):
        self.takes("brk", (1, 2, 999, 1000), (0, 1001, 10000))

    def test_unit(self):
        for unit in (1, 2, 9999, 10000):
            self.is_card(SIX_RACES + pool(least=0, unit=unit))
        for unit in (0, 10001, 20000, 65537):
            self.has_fault(4, SIX_RACES + pool(least=0, unit=f"@{unit}"))

    def test_least_of_a_unit_of_100(self):
        for least in (0, 100, 101, 150, 199, 200):
            self.is_card(SIX_RACES + pool(least=least, unit=100))
        for least in (1, 99, 201, 20000):
            self.has_fault(4, SIX_RACES + pool(least=least, unit="@100"))

    def test_least_of_the_smallest_and_the_greatest_unit(self):
        for least in (0, 1, 2):
            self.is_card(SIX_RACES + pool(least=least, unit=1))
        self.has_fault(4, SIX_RACES + pool(least=3, unit="@1"))
        for least in (0, 10000, 10001, 19999, 20000):
            self.is_card(SIX_RACES + pool(least=least, unit=10000))
        self.has_fault(4, SIX_RACES + pool(least=9999, unit="@10000"))
        self.has_fault(4, SIX_RACES + pool(least=1, unit="@10000"))

    def test_least_is_at_most_20000(self):
        self.has_fault(4, SIX_RACES + pool(least="@20001", unit=10000))
        self.has_fault(4, SIX_RACES + pool(least="@20001", unit=100))
        self.has_fault(4, SIX_RACES + pool(least="@99999", unit=10001))


class Interests(CardTest):
    def test_as_many_as_k_and_one_fewer(self):
        for kind, k in (("place", 2), ("place", 3), ("place", 4), ("order", 2), ("order", 4), ("any", 2), ("any", 3)):
            self.is_card(DAY + f"race {max(k, 2)}\n" + pool(kind=kind, k=k))
            couples = " couple 1 2"
            self.is_card(DAY + f"race {k + 1}{couples}\n" + pool(kind=kind, k=k))
            self.has_fault(7, DAY + f"race {k}{couples}\n" + pool(kind=kind, k=f"@{k}"))
            if k > 2:
                self.has_fault(7, DAY + f"race {k - 1}\n" + pool(kind=kind, k=f"@{k}"))

    def test_one_interest_is_enough_for_place_1(self):
        self.is_card(DAY + "race 2 couple 1 2\n" + pool(k=1))
        self.is_card(DAY + "race 9 " + " ".join(f"couple 1 {b}" for b in range(2, 10)) + "\n" + pool(k=1))

    def test_of_the_pools_own_race(self):
        races = DAY + "race 2\nrace 4\nrace 3\n"
        self.is_card(races + pool(k=4, race=2))
        self.has_fault(7, races + pool(k="@4", race=1))
        self.has_fault(7, races + pool(k="@4", race=3))
        self.is_card(races + pool(k=3, race=3))

    def test_legs_ask_for_none(self):
        self.is_card(DAY + "race 2 couple 1 2\n" * 6 + pool(kind="legs", k=6, none="fewer"))

    def test_a_race_of_few_interests_without_a_pool(self):
        self.is_card(DAY + "race 2 couple 1 2\nrace 4\n" + pool(k=4, race=2))


class Longest(CardTest):
    def test_the_largest_card_and_one_thing_more(self):
        self.has_fault(6, large() + "@pool one place 1 from 1 take 0 break 1 least 0 unit 1 none carry\n")
        self.has_fault(1, large() + "x@")


if __name__ == "__main__":
    unittest.main()
