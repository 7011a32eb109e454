"""Texts that lie close to a given text: bytes, words and lines of it changed, left out, doubled, moved."""

BYTES = (0, 9, 10, 31, 32, 47, 48, 49, 57, 58, 96, 97, 122, 123, 126, 127, 255)
WORDS = (
    b"day", b"race", b"pool", b"couple", b"place", b"order", b"any", b"legs", b"from", b"take", b"break", b"least",
    b"unit", b"none", b"refund", b"carry", b"fewer", b"0", b"1", b"2", b"3", b"4", b"5", b"6", b"7", b"24", b"25",
    b"400", b"401", b"1000", b"1001", b"10000", b"10001", b"20000", b"20001", b"00", b"01", b"d", b"w", b"1x",
    b"abcdefghijkl", b"abcdefghijklm", b"~", b"couple 1 2", b"1 couple 2 3",
)


def bytes_altered(text):
    for place in range(len(text) + 1):
        yield text[:place]
        yield text[:place] + text[place + 1:]
        for byte in BYTES:
            yield text[:place] + bytes([byte]) + text[place:]
            yield text[:place] + bytes([byte]) + text[place + 1:]


def words_altered(text):
    lines = text.split(b"\n")
    for at, line in enumerate(lines):
        words = line.split(b" ")
        for number, word in enumerate(words):
            rows = [words[:number], words[:number] + words[number + 1:], words[:number] + [word] + words[number:]]
            for other in WORDS:
                rows.append(words[:number] + [other] + words[number + 1:])
                rows.append(words[:number] + [other] + words[number:])
            for row in rows:
                yield b"\n".join(lines[:at] + [b" ".join(row)] + lines[at + 1:])


def lines_altered(text):
    lines = text.split(b"\n")[:-1]
    for at, line in enumerate(lines):
        for to in range(len(lines) + 1):
            yield b"".join(row + b"\n" for row in lines[:to] + [line] + lines[to:])
            rest = lines[:at] + lines[at + 1:]
            yield b"".join(row + b"\n" for row in rest[:to] + [line] + rest[to:])
        for count in range(14, 18):
            yield b"".join(row + b"\n" for row in lines[:at] + [line] * count + lines[at + 1:])


def altered(text):
    yield text
    yield from bytes_altered(text)
    yield from words_altered(text)
    yield from lines_altered(text)
