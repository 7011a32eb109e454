"""What a card tells, number by number."""


def races_told(card):
    """How many races; of each its runners, how many couples, and of each couple a, b."""
    told = [len(card.races)]
    for race in card.races:
        told.extend([race.runners, len(race.couples)])
        for couple in race.couples_by_b():
            told.extend(couple)
    return told


def pool_told(pool):
    rules = [pool.kind, pool.k, pool.race, pool.none, pool.take, pool.brk, pool.least, pool.unit]
    return rules + [len(pool.name)] + pool.name


def pools_told(card):
    """How many pools; of each its rules, how many bytes its name has, and these."""
    told = [len(card.pools)]
    for pool in card.pools:
        told.extend(pool_told(pool))
    return told


def pool_number(card, name):
    """The number of the pool of that name, from 0; None if none has it."""
    for number, pool in enumerate(card.pools):
        if pool.name == name:
            return number
    return None
