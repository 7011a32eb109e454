"""A second reading of the document, written apart from the package and in another manner.

A line is told as a row of slots; a slot looks at one word and says which kind of fault it has there.
"""

import re

BAD_BYTE = re.compile(rb"[^\x20-\x7e]|\A |(?<= ) | \Z")
NAME = re.compile(rb"[a-z][a-z0-9]{0,11}")
NUMBER = re.compile(rb"0|[1-9][0-9]*")
BOUNDS = {b"place": (1, 4), b"order": (2, 4), b"any": (2, 3), b"legs": (2, 6)}


class State:
    def __init__(self):
        self.races = []
        self.names = []


def number(word, low, high):
    if NUMBER.fullmatch(word) is None or len(word) > 9 or not low <= int(word) <= high:
        return None
    return int(word)


def race_fault(words, nl, state):
    """The fault of a race's line behind its first word, as (kind, place)."""
    if not words:
        return 3, nl
    place, word = words[0]
    runners = number(word, 2, 24)
    if runners is None:
        return 4, place
    partner = {}
    for count, at in enumerate(range(1, len(words), 3)):
        place, word = words[at]
        if word != b"couple":
            return 3, place
        if count >= 8:
            return 6, place
        for step in (1, 2):
            if at + step >= len(words):
                return 3, nl
            place, word = words[at + step]
            value = number(word, 1, runners)
            if value is None:
                return 4, place
            if step == 1:
                a = value
                if a in partner:
                    return 4, place
            elif value <= a or value in partner or value in partner.values():
                return 4, place
            else:
                partner[value] = a
    state.races.append(runners - len(partner))
    return None


def pool_slots(state):
    """One function a slot: it takes the word and what's been read, and gives None, a kind, or (kind, slot)."""
    def name(word, got):
        if NAME.fullmatch(word) is None:
            return 4
        return 5 if word in state.names else None

    def kind(word, got):
        return None if word in BOUNDS else 3

    def k(word, got):
        return 4 if number(word, *BOUNDS[got[1]]) is None else None

    def race(word, got):
        where = number(word, 1, len(state.races))
        if where is None:
            return 4
        count = int(got[2])
        if got[1] == b"legs":
            return 4 if where + count - 1 > len(state.races) else None
        return (7, 2) if state.races[where - 1] < count else None

    def unit(word, got):
        if number(word, 1, 10000) is None:
            return 4
        least = int(got[10])
        return None if least == 0 or int(word) <= least <= 2 * int(word) else 4

    def none(word, got):
        words = [b"refund", b"carry"] + ([b"fewer"] if got[1] != b"place" else [])
        return None if word in words else 3

    def fixed(wanted):
        return lambda word, got: None if word == wanted else 3

    def bounded(low, high):
        return lambda word, got: 4 if number(word, low, high) is None else None

    return [
        name, kind, k, fixed(b"from"), race, fixed(b"take"), bounded(0, 400), fixed(b"break"), bounded(1, 1000),
        fixed(b"least"), bounded(0, 20000), fixed(b"unit"), unit, fixed(b"none"), none,
    ]


def pool_fault(words, nl, state):
    """The fault of a pool's line behind its first word, as (kind, place)."""
    got = []
    for at, slot in enumerate(pool_slots(state)):
        if at == len(words):
            return 3, nl
        place, word = words[at]
        fault = slot(word, got)
        if isinstance(fault, tuple):
            return fault[0], words[fault[1]][0]
        if fault is not None:
            return fault, place
        got.append(word)
    if len(words) > len(got):
        return 3, words[len(got)][0]
    state.names.append(got[0])
    return None


def day_fault(words, nl):
    if words[0][1] != b"day":
        return 3, words[0][0]
    if len(words) == 1:
        return 3, nl
    if NAME.fullmatch(words[1][1]) is None:
        return 4, words[1][0]
    return (3, words[2][0]) if len(words) > 2 else None


def line_fault(first, words, nl, state):
    place, word = words[0]
    if first:
        return day_fault(words, nl)
    if word == b"race":
        if state.names:
            return 3, place
        return (6, place) if len(state.races) == 16 else race_fault(words[1:], nl, state)
    if word == b"pool" and state.races:
        return (6, place) if len(state.names) == 64 else pool_fault(words[1:], nl, state)
    return 3, place


def first_fault(text):
    """None of a card's text, else (kind, place); text: bytes."""
    state = State()
    start = 0
    while start < len(text) or start == 0:
        nl = text.find(b"\n", start)
        if nl < 0:
            return 1, len(text)
        line = text[start:nl]
        bad = BAD_BYTE.search(line)
        if bad or not line:
            return 2, start + (bad.start() if bad else 0)
        words = [(start + word.start(), word.group()) for word in re.finditer(rb"[^ ]+", line)]
        fault = line_fault(start == 0, words, nl, state)
        if fault is not None:
            return fault
        start = nl + 1
    return None if state.races else (8, len(text))
