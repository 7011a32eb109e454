"""Ordinary cards: judge's 0, and the one text."""

import unittest

from racecards.cards import judge, one_text
from tests.checks import CardTest
from tests.samples import DAY, MIXED, MIXED_ONE, POOL, RACE, SMALL, judged, large, pool, row, written


class OrdinaryCards(CardTest):
    def test_answers_of_a_small_card_number_by_number(self):
        text = [100, 97, 121, 32, 97, 10, 114, 97, 99, 101, 32, 50, 10]
        self.assertEqual(judge(text), [0])
        self.assertEqual(one_text(text), [0, 100, 97, 121, 32, 97, 10, 114, 97, 99, 101, 32, 50, 10])

    def test_a_day_and_a_race_are_a_card(self):
        self.is_card(DAY + RACE)

    def test_a_card_with_a_pool(self):
        self.is_card(SMALL)

    def test_a_card_with_all_kinds_of_pools(self):
        self.is_card(MIXED, MIXED_ONE)

    def test_a_card_with_the_most_of_everything(self):
        self.is_card(large())

    def test_every_kind_with_every_word_of_none(self):
        for kind in ("place", "order", "any", "legs"):
            for none in ("refund", "carry", "fewer"):
                if (kind, none) != ("place", "fewer"):
                    self.is_card(DAY + RACE * 3 + pool(kind=kind, k=2, none=none))

    def test_words_of_the_grammar_may_be_names(self):
        self.is_card("day day\n" + RACE + pool(name="pool") + pool(name="place") + pool(name="none"))

    def test_the_days_name_may_be_a_pools(self):
        self.is_card("day win\n" + RACE + pool(name="win"))

    def test_names_that_begin_alike_differ(self):
        self.is_card(DAY + RACE + pool(name="w") + pool(name="wi") + pool(name="win") + pool(name="w1n"))

    def test_two_pools_of_one_rule(self):
        self.is_card(DAY + RACE + pool(name="a") + pool(name="b"))


class CouplesByB(CardTest):
    def sorts(self, race, one):
        self.is_card(DAY + race, DAY + one)

    def test_couples_that_fall(self):
        self.sorts("race 6 couple 5 6 couple 3 4 couple 1 2\n", "race 6 couple 1 2 couple 3 4 couple 5 6\n")

    def test_by_b_and_not_by_a(self):
        self.sorts("race 9 couple 1 9 couple 2 8 couple 3 7\n", "race 9 couple 3 7 couple 2 8 couple 1 9\n")

    def test_by_b_as_a_number(self):
        self.sorts("race 24 couple 1 10 couple 1 9 couple 2 24\n", "race 24 couple 1 9 couple 1 10 couple 2 24\n")

    def test_couples_that_rise_stay(self):
        self.is_card(DAY + "race 9 couple 3 4 couple 1 5 couple 3 9\n")

    def test_each_race_by_itself(self):
        self.is_card(
            DAY + "race 4 couple 3 4 couple 1 2\nrace 3\nrace 5 couple 1 5 couple 1 2\n" + POOL,
            DAY + "race 4 couple 1 2 couple 3 4\nrace 3\nrace 5 couple 1 2 couple 1 5\n" + POOL,
        )

    def test_eight_couples_turned_round(self):
        falling = " ".join(f"couple {a} {a + 12}" for a in range(8, 0, -1))
        rising = " ".join(f"couple {a} {a + 12}" for a in range(1, 9))
        self.sorts(f"race 24 {falling}\n", f"race 24 {rising}\n")

    def test_the_one_text_handed_in_again(self):
        for text in (SMALL, MIXED, large(), DAY + "race 9 couple 1 9 couple 2 8 couple 3 7\n"):
            once = one_text(row(text))
            self.assertEqual(judge(once[1:]), [0])
            self.assertEqual(one_text(once[1:]), once)

    def test_two_texts_of_one_card_have_one_text(self):
        first = DAY + "race 9 couple 1 9 couple 2 8 couple 2 5\n" + POOL
        second = DAY + "race 9 couple 2 5 couple 1 9 couple 2 8\n" + POOL
        self.assertEqual(judged(first), [0])
        self.assertEqual(written(first), written(second))

    def test_cards_that_differ_have_texts_that_differ(self):
        texts = [
            DAY + RACE, "day sunday\n" + RACE, DAY + "race 9\n", DAY + RACE + RACE, DAY + "race 8 couple 1 2\n",
            DAY + "race 8 couple 1 3\n", DAY + "race 8 couple 2 3\n", SMALL, DAY + RACE + pool(name="wim"),
            DAY + RACE + pool(kind="order", k=2), DAY + RACE + pool(kind="any", k=2), DAY + RACE + pool(k=2),
            DAY + RACE + pool(take=151), DAY + RACE + pool(brk=11), DAY + RACE + pool(least=101),
            DAY + RACE + pool(unit=99), DAY + RACE + pool(none="carry"), DAY + RACE + RACE + pool(race=2),
        ]
        answers = [written(text)[1] for text in texts]
        self.assertEqual(len(set(answers)), len(texts))


if __name__ == "__main__":
    unittest.main()
