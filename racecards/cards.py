"""The calls: each answers a list of whole numbers; a text and a name are lists of bytes."""

from racecards.faults import Fault
from racecards.reading import read_card
from racecards.telling import pool_number, pools_told, races_told
from racecards.writing import card_text

MOST_BYTES = 65536
MOST_FACTORS = 64
# 2 to the power of 64.
MODULUS = 18446744073709551616

DONE = 0
NO_SUCH_RACE = -1
TOO_LONG = -2
NO_POOL = -4
FAULTY = -6


def answer_of(text, tell):
    """What tell answers of the text's card; [-2] of a text that's too long, [-6] of one with a fault."""
    if len(text) > MOST_BYTES:
        return [TOO_LONG]
    try:
        card = read_card(text)
    except Fault:
        return [FAULTY]
    return tell(card)


# The one call that tells the fault too, so it doesn't go by answer_of.
def judge(text):
    """[0] of a card's text; [-2] of one that's too long; [-6, kind, place] of one with a first fault."""
    if len(text) > MOST_BYTES:
        return [TOO_LONG]
    try:
        read_card(text)
    except Fault as fault:
        return [FAULTY, fault.kind, fault.place]
    return [DONE]


def one_text(text):
    """0 and the card's one text; [-2] or [-6] of a text that's refused."""
    return answer_of(text, lambda card: [DONE] + card_text(card))


def day(text):
    """0 and the bytes of the day's name; [-2] or [-6] of a text that's refused."""
    return answer_of(text, lambda card: [DONE] + card.day_name)


def races(text):
    """0, how many races, and what there is to tell of each; [-2] or [-6] of a text that's refused."""
    return answer_of(text, lambda card: [DONE] + races_told(card))


def pools(text):
    """0, how many pools, and what there is to tell of each; [-2] or [-6] of a text that's refused."""
    return answer_of(text, lambda card: [DONE] + pools_told(card))


def find_answer(card, name):
    number = pool_number(card, name)
    if number is None:
        return [NO_POOL]
    return [DONE, number]


def find(text, name):
    """0 and the number of the pool of that name, or [-4]; [-2] or [-6] of a text that's refused."""
    return answer_of(text, lambda card: find_answer(card, name))


def heads_answer(card, race):
    if race < 1 or race > len(card.races):
        return [NO_SUCH_RACE]
    return [DONE] + card.races[race - 1].head_runners()


def heads(race, text):
    """0 and the interests of that race, rising, or [-1]; [-2] or [-6] of a text that's refused."""
    return answer_of(text, lambda card: heads_answer(card, race))


def orders(n, k):
    """0 and n (n - 1) ... (n - k + 1) modulo 2^64, where k above 64 is taken for 64 first."""
    product = 1
    # Where k is above n one factor is 0, and so is the product from there on.
    for taken in range(min(k, MOST_FACTORS)):
        product = product * (n - taken) % MODULUS
    return [DONE, product]
