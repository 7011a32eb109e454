"""Each kind of fault with its place, each of its causes, and which of two faults counts."""

import unittest

from racecards.cards import judge, one_text
from tests.checks import CardTest
from tests.samples import DAY, EIGHT_COUPLES, POOL, RACE, SMALL, pool

POOL_WORDS = POOL[:-1].split(" ")


class NotEnded(CardTest):
    def test_a_text_without_a_byte(self):
        self.assertEqual(judge([]), [-6, 1, 0])
        self.assertEqual(one_text([]), [-6])

    def test_each_line_of_a_card(self):
        self.has_fault(1, "day monday@")
        self.has_fault(1, DAY + "race 8@")
        self.has_fault(1, DAY + RACE + POOL[:-1] + "@")

    def test_one_byte(self):
        for byte in (0, 9, 11, 32, 100, 127, 255):
            self.assertEqual(judge([byte]), [-6, 1, 1])

    def test_it_counts_before_all_else_of_its_line(self):
        self.has_fault(1, " day  x\x00@")
        self.has_fault(1, DAY + RACE + "  @")
        self.has_fault(1, DAY + RACE + "\xff@")
        self.has_fault(1, DAY + RACE + "nonsense@")
        self.has_fault(1, DAY + RACE * 16 + "race 8@")


class BadBytes(CardTest):
    def test_bytes_that_are_none_of_32_to_126(self):
        for byte in list(range(10)) + list(range(11, 32)) + list(range(127, 256)):
            self.has_fault(2, DAY + "ra@" + chr(byte) + "ce 8\n")

    def test_bytes_from_33_to_126_are_none_of_these(self):
        for byte in range(33, 127):
            if chr(byte) != "@":
                self.has_fault(3, DAY + "@ra" + chr(byte) + "ce 8\n")
        self.assertEqual(judge(list((DAY + "ra@ce 8\n").encode())), [-6, 3, len(DAY)])

    def test_a_carriage_return_and_a_tab(self):
        self.has_fault(2, "day monday@\r\n" + RACE)
        self.has_fault(2, "day@\tmonday\n" + RACE)

    def test_a_bad_byte_at_the_lines_beginning_and_end(self):
        self.has_fault(2, "@\x00day monday\n" + RACE)
        self.has_fault(2, DAY + "@\x7frace 8\n")
        self.has_fault(2, DAY + "race 8@\x80\n")

    def test_a_blank_at_the_beginning(self):
        self.has_fault(2, "@ day monday\n" + RACE)
        self.has_fault(2, DAY + "@ race 8\n")

    def test_a_blank_behind_a_blank(self):
        self.has_fault(2, "day @ monday\n" + RACE)
        self.has_fault(2, DAY + RACE + POOL.replace(" none ", "  none ").replace("  none", " @ none"))
        self.has_fault(2, "day @  monday\n" + RACE)

    def test_a_blank_at_the_end(self):
        self.has_fault(2, "day monday@ \n" + RACE)
        self.has_fault(2, "day monday @ \n" + RACE)
        self.has_fault(2, DAY + RACE + POOL[:-1] + "@ \n")

    def test_a_line_of_blanks(self):
        self.has_fault(2, "@ \n")
        self.has_fault(2, DAY + "@   \n")

    def test_an_empty_line(self):
        self.has_fault(2, "@\n")
        self.has_fault(2, "@\n" + SMALL)
        self.has_fault(2, DAY + "@\n" + RACE)
        self.has_fault(2, SMALL + "@\n")
        self.has_fault(2, SMALL + "@\n\n")

    def test_the_first_of_such_bytes(self):
        self.has_fault(2, "day @ mon\x00day\n" + RACE)
        self.has_fault(2, "day mon@\x00day  x\n" + RACE)
        self.has_fault(2, "day mon@\x00day \n" + RACE)
        self.has_fault(2, "@ \x00\n")
        self.has_fault(2, "@\x00 \n")

    def test_it_counts_before_the_words_of_its_line(self):
        self.has_fault(2, "nonsense here@ \n")
        self.has_fault(2, "day 1 @ x\n")
        self.has_fault(2, DAY + RACE * 16 + "race 8@ \n")
        self.has_fault(2, DAY + RACE + POOL + POOL[:-1] + "@ \n")


class BadWords(CardTest):
    def test_the_first_line_begins_with_day(self):
        for word in ("race", "pool", "da", "days", "Day", "DAY", "x", "0", "couple"):
            self.has_fault(3, f"@{word} monday\n" + RACE)
        self.has_fault(3, "@" + RACE + DAY)
        self.has_fault(3, "@" + POOL)

    def test_each_other_line_begins_with_race_or_pool(self):
        for word in ("day", "rac", "races", "Race", "pools", "poo", "couple", "8"):
            self.has_fault(3, DAY + f"@{word} 8\n")
            self.has_fault(3, DAY + RACE + f"@{word} 8\n")
            self.has_fault(3, SMALL + f"@{word} 8\n")

    def test_a_second_day(self):
        self.has_fault(3, DAY + "@" + DAY + RACE)
        self.has_fault(3, DAY + RACE + "@day other\n")

    def test_a_race_behind_a_pool(self):
        self.has_fault(3, SMALL + "@" + RACE)
        self.has_fault(3, SMALL + "@race\n")

    def test_a_pool_before_any_race(self):
        self.has_fault(3, DAY + "@" + POOL + RACE)
        self.has_fault(3, DAY + "@pool\n")

    def test_a_seventeenth_race_behind_a_pool_cant_stand_there(self):
        self.has_fault(3, DAY + RACE * 16 + POOL + "@" + RACE)

    def test_words_missing_from_the_days_line(self):
        self.has_fault(3, "day@\n" + RACE)

    def test_a_word_too_many_in_the_days_line(self):
        self.has_fault(3, "day monday @x\n" + RACE)
        self.has_fault(3, "day monday @x y\n" + RACE)
        self.has_fault(3, "day day @day\n" + RACE)

    def test_words_missing_from_a_races_line(self):
        self.has_fault(3, DAY + "race@\n")
        self.has_fault(3, DAY + "race 8 couple@\n")
        self.has_fault(3, DAY + "race 8 couple 1@\n")
        self.has_fault(3, DAY + "race 8 couple 1 2 couple@\n")
        self.has_fault(3, DAY + "race 8 couple 1 2 couple 1@\n")

    def test_a_word_that_should_be_couple(self):
        for word in ("1", "couples", "coupl", "Couple", "race"):
            self.has_fault(3, DAY + f"race 8 @{word}\n")
            self.has_fault(3, DAY + f"race 8 @{word} 1 2\n")
            self.has_fault(3, DAY + f"race 8 couple 1 2 @{word} 3 4\n")
            self.has_fault(3, DAY + f"race 24 {EIGHT_COUPLES} @{word}\n")

    def test_each_word_missing_from_a_pools_line(self):
        for count in range(1, len(POOL_WORDS)):
            self.has_fault(3, DAY + RACE + " ".join(POOL_WORDS[:count]) + "@\n")

    def test_each_fixed_word_of_a_pools_line(self):
        for number in (2, 4, 6, 8, 10, 12, 14, 15):
            good = POOL_WORDS[number]
            for word in ("x", "1", good[:-1] + "~", good + "s", good.upper(), good[:-1], "couple"):
                words = list(POOL_WORDS)
                words[number] = "@" + word
                self.has_fault(3, DAY + RACE + " ".join(words) + "\n")

    def test_fixed_words_that_change_places(self):
        self.has_fault(3, DAY + RACE + POOL.replace("take", "@break"))
        self.has_fault(3, DAY + RACE + POOL.replace("break", "@take"))
        self.has_fault(3, DAY + RACE + POOL.replace("least", "@unit"))

    def test_a_word_left_out_of_a_pools_line(self):
        for number in (2, 4, 6, 8, 10, 12, 14):
            words = POOL_WORDS[:number] + ["@" + POOL_WORDS[number + 1]] + POOL_WORDS[number + 2:]
            self.has_fault(3, DAY + RACE + " ".join(words) + "\n")

    def test_a_word_too_many_in_a_pools_line(self):
        self.has_fault(3, DAY + RACE + POOL[:-1] + " @x\n")
        self.has_fault(3, DAY + RACE + POOL[:-1] + " @refund x\n")

    def test_fewer_of_place(self):
        self.has_fault(3, DAY + RACE + pool(kind="place", k=1, none="@fewer"))
        self.is_card(DAY + RACE + pool(kind="order", k=2, none="fewer"))


class BadValues(CardTest):
    def test_numbers_that_are_none(self):
        for word in "x -1 +1 1. 1.0 1e1 0x1 00 01 001 1_0 1,0 a1 1a / : 1/ 1:".split():
            self.has_fault(4, DAY + f"race @{word}\n")
            self.has_fault(4, DAY + f"race 8 couple @{word} 2\n")
            self.has_fault(4, DAY + f"race 8 couple 1 @{word}\n")
            for number in (3, 5, 7, 9, 11, 13):
                words = list(POOL_WORDS)
                words[number] = "@" + word
                self.has_fault(4, DAY + RACE + " ".join(words) + "\n")

    def test_a_0_in_front(self):
        self.has_fault(4, DAY + "race @08\n")
        self.has_fault(4, DAY + RACE + pool(take="@00"))
        self.has_fault(4, DAY + RACE + pool(take="@0150"))
        self.has_fault(4, DAY + RACE + pool(least="@00"))
        self.is_card(DAY + RACE + pool(take=0, least=0))

    def test_long_rows_of_digits(self):
        for count in (5, 6, 7, 9, 10, 19, 20, 40, 5000, 60000):
            self.has_fault(4, DAY + "race @" + "8" * count + "\n")
            self.has_fault(4, DAY + "race @" + "0" * count + "\n")
            self.has_fault(4, DAY + RACE + pool(take="@1" + "0" * count))

    def test_numbers_that_wrap_to_small_ones(self):
        for power in (8, 16, 32, 64):
            self.has_fault(4, DAY + f"race @{2 ** power + 8}\n")

    def test_an_a_that_is_a_b_already(self):
        self.has_fault(4, DAY + "race 8 couple 1 2 couple @2 3\n")
        self.has_fault(4, DAY + "race 8 couple 1 2 couple 3 4 couple @2 5\n")
        self.has_fault(4, DAY + "race 8 couple 1 8 couple @8 8\n")

    def test_an_a_that_is_an_a_already(self):
        self.is_card(DAY + "race 8 couple 1 2 couple 1 3\n")

    def test_a_b_that_is_not_above_a(self):
        self.has_fault(4, DAY + "race 8 couple 2 @1\n")
        self.has_fault(4, DAY + "race 8 couple 2 @2\n")
        self.has_fault(4, DAY + "race 8 couple 1 2 couple 5 @4\n")

    def test_a_b_that_is_a_b_already(self):
        self.has_fault(4, DAY + "race 8 couple 1 3 couple 2 @3\n")
        self.has_fault(4, DAY + "race 8 couple 1 3 couple 1 @3\n")
        self.has_fault(4, DAY + "race 8 couple 1 3 couple 1 4 couple 2 @3\n")

    def test_a_b_that_is_an_a_already(self):
        self.has_fault(4, DAY + "race 8 couple 3 4 couple 1 @3\n")
        self.has_fault(4, DAY + "race 8 couple 3 4 couple 5 6 couple 1 @3\n")

    def test_couples_of_other_lines_count_for_nothing(self):
        self.is_card(DAY + "race 8 couple 1 2\nrace 8 couple 2 3\nrace 8 couple 1 3\n")

    def test_a_pools_race_that_hasnt_come(self):
        self.has_fault(4, DAY + RACE + pool(race="@2"))
        self.has_fault(4, DAY + RACE * 3 + pool(race="@4"))

    def test_the_least_is_told_at_the_unit(self):
        self.has_fault(4, DAY + RACE + pool(least=99, unit="@100"))
        self.has_fault(4, DAY + RACE + pool(least=201, unit="@100"))


class OtherFaults(CardTest):
    def test_5_the_name_of_a_pool_that_is_there(self):
        self.has_fault(5, SMALL + "pool @" + POOL[5:])
        others = pool(name="a") + pool(name="b") + pool(name="c")
        for name in ("a", "b", "c"):
            self.has_fault(5, DAY + RACE + others + pool(name="@" + name, kind="any", k=2, none="carry"))
            self.has_fault(5, DAY + RACE + others + f"pool @{name}\n")

    def test_5_not_of_the_days_name(self):
        self.has_fault(5, "day win\n" + RACE + POOL + "pool @" + POOL[5:])

    def test_6_at_the_lines_first_word_whatever_follows(self):
        self.has_fault(6, DAY + RACE * 16 + "@race\n")
        self.has_fault(6, DAY + RACE * 16 + "@race 99\n")
        pools = "".join(pool(name=f"p{number}") for number in range(64))
        self.has_fault(6, DAY + RACE + pools + "@pool\n")
        self.has_fault(6, DAY + RACE + pools + "@pool p1\n")

    def test_6_at_the_word_couple_whatever_follows(self):
        self.has_fault(6, DAY + f"race 24 {EIGHT_COUPLES} @couple\n")
        self.has_fault(6, DAY + f"race 24 {EIGHT_COUPLES} @couple 99 x\n")

    def test_7_at_k(self):
        self.has_fault(7, DAY + "race 2 couple 1 2\n" + pool(k="@2"))
        self.has_fault(7, DAY + "race 3\n" + pool(kind="order", k="@4"))
        self.has_fault(7, DAY + "race 4 couple 1 2 couple 1 3\n" + pool(kind="any", k="@3"))

    def test_8_at_the_texts_end(self):
        self.has_fault(8, "day monday\n@")
        self.has_fault(8, "day a\n@")


class TwoFaults(CardTest):
    """The first one in the document's order counts."""

    def test_of_two_lines_the_first(self):
        self.has_fault(3, "day@\n\n")
        self.has_fault(4, "day @1\nrace 8")
        self.has_fault(4, DAY + "race @1\n \n")
        self.has_fault(2, DAY + "race@  8\n".replace("@ ", " @") + "pool")
        self.has_fault(4, DAY + "race @1\nday x\n")

    def test_of_the_days_line(self):
        self.has_fault(3, "@dy 1 x\n")
        self.has_fault(4, "day @1 x\n")
        self.has_fault(3, "day a @b\n")

    def test_of_a_races_line(self):
        self.has_fault(4, DAY + "race @1 copple\n")
        self.has_fault(4, DAY + "race @25 couple 1 1\n")
        self.has_fault(3, DAY + "race 8 @copple 0 0\n")
        self.has_fault(4, DAY + "race 8 couple @0 0\n")
        self.has_fault(4, DAY + "race 8 couple @0\n")
        self.has_fault(4, DAY + "race 8 couple 2 @2 couple\n")
        self.has_fault(4, DAY + "race 8 couple 1 2 couple @2 2\n")
        self.has_fault(4, DAY + "race 8 couple 1 2 couple @2\n")

    def test_a_pools_faults_in_their_order(self):
        """Each word of a line is made wrong, and all behind it too: the first one counts."""
        wrong = ["x", "1", "x", "0", "x", "2", "x", "401", "x", "0", "x", "20001", "x", "0", "x", "x", "x"]
        kinds = [3, 4, 3, 4, 3, 4, 3, 4, 3, 4, 3, 4, 3, 4, 3, 3, 3]
        for number in range(17):
            words = POOL_WORDS[:number] + ["@" + wrong[number]] + wrong[number + 1:]
            self.has_fault(kinds[number], DAY + RACE + " ".join(words) + "\n")

    def test_the_name_before_whether_it_is_there(self):
        self.has_fault(4, SMALL + "pool @Win x\n")
        self.has_fault(5, SMALL + "pool @win x\n")

    def test_7_is_looked_at_right_behind_the_race(self):
        few = DAY + "race 2 couple 1 2\n"
        self.has_fault(7, few + "pool p place @2 from 1\n")
        self.has_fault(7, few + "pool p place @2 from 1 x\n")
        self.has_fault(7, few + "pool p order @2 from 1 take 401\n")
        self.has_fault(3, few + "pool p place 2@\n")
        self.has_fault(3, few + "pool p place 2 @x 1\n")
        self.has_fault(3, few + "pool p place 2 from@\n")
        self.has_fault(4, few + "pool p place 2 from @2\n")
        self.has_fault(4, few + "pool p place 2 from @x\n")
        self.has_fault(4, few + "pool p place @5 from 1\n")

    def test_legs_last_race_is_looked_at_right_behind_the_race(self):
        two = DAY + RACE * 2
        self.has_fault(4, two + "pool p legs 2 from @2\n")
        self.has_fault(4, two + "pool p legs 3 from @1 x\n")
        self.has_fault(4, two + "pool p legs 3 from @3 x\n")
        self.has_fault(4, two + "pool p legs @7 from 2\n")
        self.has_fault(3, two + "pool p legs 2 from 1@\n")

    def test_least_is_looked_at_right_behind_the_unit(self):
        start = DAY + RACE + "pool p place 1 from 1 take 0 break 1 "
        self.has_fault(3, start + "least 99@\n")
        self.has_fault(3, start + "least 99 @x 100\n")
        self.has_fault(3, start + "least 99 unit@\n")
        self.has_fault(4, start + "least 99 unit @10001\n")
        self.has_fault(4, start + "least 99 unit @100\n")
        self.has_fault(4, start + "least 99 unit @100 x\n")
        self.has_fault(3, start + "least 100 unit 100@\n")

    def test_no_race_is_looked_at_last(self):
        self.has_fault(1, DAY + "race 8@")
        self.has_fault(2, DAY + "@\n")
        self.has_fault(3, DAY + "@pool\n")


if __name__ == "__main__":
    unittest.main()
