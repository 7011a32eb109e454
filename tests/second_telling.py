"""What the calls answer of a card's text, by a second reading of the document, apart from the package's."""


def lines_of(text, heading):
    """The words of the lines that begin with that word; text: bytes of a card's text."""
    rows = [line.split(b" ") for line in text.split(b"\n")[:-1]]
    return [words for words in rows if words[0] == heading]


def day_answer(text):
    return [0, *lines_of(text, b"day")[0][1]]


def race_numbers(words):
    runners = int(words[1])
    lows = [int(word) for word in words[3::3]]
    highs = [int(word) for word in words[4::3]]
    numbers = [runners, len(words) // 3]
    for runner in range(1, runners + 1):
        if runner in highs:
            numbers += [lows[highs.index(runner)], runner]
    return numbers


def races_answer(text):
    rows = lines_of(text, b"race")
    return [0, len(rows)] + [number for words in rows for number in race_numbers(words)]
