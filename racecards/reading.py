"""A text is read strictly as a card: the card, or the text's first fault."""

from racecards.faults import BAD_VALUE, BAD_WORD, FEW_INTERESTS, NAME_IS_THERE, NO_RACE, TOO_MANY, Fault
from racecards.lines import line_from

MOST_RACES = 16
MOST_POOLS = 64
MOST_COUPLES = 8

# The first words of all lines but the day's.
HEADINGS = ("race", "pool")
RACE_LINE = 0

# A kind's number is where it stands in KINDS; LEAST_K and MOST_K go beside it.
KINDS = ("place", "order", "any", "legs")
LEAST_K = (1, 2, 2, 2)
MOST_K = (4, 4, 3, 6)
PLACE = 0
LEGS = 3

# Those of place come first, so that a word has the same number of every kind.
NONES = ("refund", "carry", "fewer")
NONES_OF_PLACE = ("refund", "carry")


class Race:
    def __init__(self, runners):
        self.runners = runners
        self.couples = []

    def interests(self):
        """How many heads there are: each couple has a b of its own."""
        return self.runners - len(self.couples)

    def head_runners(self):
        """The runners that are no couple's b, rising."""
        highs = [couple[1] for couple in self.couples]
        return [runner for runner in range(1, self.runners + 1) if runner not in highs]

    def couples_by_b(self):
        return sorted(self.couples, key=lambda couple: couple[1])


class Pool:
    def __init__(self, name, kind, k, race, take, brk, least, unit, none):
        self.name = name
        self.kind = kind
        self.k = k
        self.race = race
        self.take = take
        self.brk = brk
        self.least = least
        self.unit = unit
        self.none = none


class Card:
    def __init__(self, day_name):
        self.day_name = day_name
        self.races = []
        self.pools = []


def read_day(line):
    line.take_fixed("day")
    name = line.take_name()
    line.finish()
    return name


def read_couple(line, race):
    """The next couple of a race's line, as the tuple (a, b)."""
    line.take_fixed("couple")
    if len(race.couples) == MOST_COUPLES:
        raise Fault(TOO_MANY, line.place)
    lows = [couple[0] for couple in race.couples]
    highs = [couple[1] for couple in race.couples]
    a = line.take_number(1, race.runners)
    if a in highs:
        raise Fault(BAD_VALUE, line.place)
    b = line.take_number(a + 1, race.runners)
    if b in lows or b in highs:
        raise Fault(BAD_VALUE, line.place)
    return (a, b)


def read_race(line):
    """The race of a line whose first word is taken."""
    race = Race(line.take_number(2, 24))
    while line.any_left():
        race.couples.append(read_couple(line, race))
    return race


def read_pool_name(line, card):
    name = line.take_name()
    for pool in card.pools:
        if pool.name == name:
            raise Fault(NAME_IS_THERE, line.place)
    return name


def read_pool(line, card):
    """The pool of a line whose first word is taken; its faults are looked for in the document's order."""
    name = read_pool_name(line, card)
    kind = line.take_choice(KINDS)
    k = line.take_number(LEAST_K[kind], MOST_K[kind])
    k_place = line.place
    race = line.take_rule("from", 1, len(card.races))
    if kind == LEGS:
        if race + k - 1 > len(card.races):
            raise Fault(BAD_VALUE, line.place)
    elif card.races[race - 1].interests() < k:
        raise Fault(FEW_INTERESTS, k_place)
    take = line.take_rule("take", 0, 400)
    brk = line.take_rule("break", 1, 1000)
    least = line.take_rule("least", 0, 20000)
    unit = line.take_rule("unit", 1, 10000)
    if least != 0 and (least < unit or least > 2 * unit):
        raise Fault(BAD_VALUE, line.place)
    line.take_fixed("none")
    none = line.take_choice(NONES_OF_PLACE if kind == PLACE else NONES)
    line.finish()
    return Pool(name, kind, k, race, take, brk, least, unit, none)


def add_race(line, card):
    if len(card.pools) > 0:
        raise Fault(BAD_WORD, line.place)
    if len(card.races) == MOST_RACES:
        raise Fault(TOO_MANY, line.place)
    card.races.append(read_race(line))


def add_pool(line, card):
    if len(card.races) == 0:
        raise Fault(BAD_WORD, line.place)
    if len(card.pools) == MOST_POOLS:
        raise Fault(TOO_MANY, line.place)
    card.pools.append(read_pool(line, card))


def read_card(text):
    """The card of this text; raises Fault with the text's first fault."""
    line = line_from(text, 0)
    card = Card(read_day(line))
    while line.end + 1 < len(text):
        line = line_from(text, line.end + 1)
        if line.take_choice(HEADINGS) == RACE_LINE:
            add_race(line, card)
        else:
            add_pool(line, card)
    if len(card.races) == 0:
        raise Fault(NO_RACE, len(text))
    return card
