"""What the calls answer of a card's text, by a second reading of the document, apart from the package's."""


def lines_of(text, heading):
    """The words of the lines that begin with that word; text: bytes of a card's text."""
    rows = [line.split(b" ") for line in text.split(b"\n")[:-1]]
    return [words for words in rows if words[0] == heading]


def day_answer(text):
    return [0, *lines_of(text, b"day")[0][1]]


def race_numbers(words):
    runners = int(words[1])
    lows = [int(word) for word in words[3::3]]
    highs = [int(word) for word in words[4::3]]
    numbers = [runners, len(words) // 3]
    for runner in range(1, runners + 1):
        if runner in highs:
            numbers += [lows[highs.index(runner)], runner]
    return numbers


def races_answer(text):
    rows = lines_of(text, b"race")
    return [0, len(rows)] + [number for words in rows for number in race_numbers(words)]


def pool_numbers(words):
    name, kind, none = words[1], words[2], words[15]
    kinds = {b"place": 0, b"order": 1, b"any": 2, b"legs": 3}
    nones = {b"refund": 0, b"carry": 1, b"fewer": 2}
    k, race, take, brk, least, unit = (int(words[at]) for at in (3, 5, 7, 9, 11, 13))
    return [kinds[kind], k, race, nones[none], take, brk, least, unit, len(name), *name]


def pools_answer(text):
    rows = lines_of(text, b"pool")
    return [0, len(rows)] + [number for words in rows for number in pool_numbers(words)]


def find_answer(text, name):
    names = [words[1] for words in lines_of(text, b"pool")]
    return [0, names.index(name)] if name in names else [-4]


def heads_answer(race, text):
    rows = lines_of(text, b"race")
    if race not in range(1, len(rows) + 1):
        return [-1]
    coupled = {int(word) for word in rows[race - 1][4::3]}
    return [0] + sorted(set(range(1, int(rows[race - 1][1]) + 1)) - coupled)
