"""What a card tells, number by number."""


def races_told(card):
    """How many races; of each its runners, how many couples, and of each couple a, b."""
    told = [len(card.races)]
    for race in card.races:
        told.extend([race.runners, len(race.couples)])
        for couple in race.couples_by_b():
            told.extend(couple)
    return told
