"""The one text of a card."""

from racecards.lines import BLANK, NL, bytes_of
from racecards.reading import KINDS, NONES


def race_text(race):
    words = ["race", str(race.runners)]
    for couple in race.couples_by_b():
        words.extend(["couple", str(couple[0]), str(couple[1])])
    return bytes_of(" ".join(words)) + [NL]


def pool_text(pool):
    words = [KINDS[pool.kind], str(pool.k), "from", str(pool.race)]
    words.extend(["take", str(pool.take), "break", str(pool.brk)])
    words.extend(["least", str(pool.least), "unit", str(pool.unit)])
    words.extend(["none", NONES[pool.none]])
    return bytes_of("pool ") + pool.name + [BLANK] + bytes_of(" ".join(words)) + [NL]


def card_text(card):
    whole = bytes_of("day ") + card.day_name + [NL]
    for race in card.races:
        whole.extend(race_text(race))
    for pool in card.pools:
        whole.extend(pool_text(pool))
    return whole
