"""Lines of a text and their words, taken one after another."""

from racecards.faults import BAD_BYTE, BAD_VALUE, BAD_WORD, NOT_ENDED, Fault

NL = 10
BLANK = 32
LAST_SIGN = 126
DIGIT_0 = 48
DIGIT_9 = 57
LETTER_A = 97
LETTER_Z = 122

MOST_NAME = 12
# No bound of a card has more digits, so a longer row of digits needn't be worked out.
MOST_DIGITS = 5


# A word stands in words with its place in front; place is that of the word taken last.
class Line:
    def __init__(self, words, end):
        self.words = words
        self.end = end
        self.taken = 0
        self.place = end

    def any_left(self):
        return self.taken < len(self.words)

    def next_word(self):
        """The next word as a list of bytes; a fault at the line's end if it's missing."""
        if not self.any_left():
            raise Fault(BAD_WORD, self.end)
        placed = self.words[self.taken]
        self.taken += 1
        self.place = placed[0]
        return placed[1]

    def take_choice(self, choices):
        """Which of the choices the next word is, counted from 0."""
        word = self.next_word()
        for number, choice in enumerate(choices):
            if word == bytes_of(choice):
                return number
        raise Fault(BAD_WORD, self.place)

    def take_fixed(self, wanted):
        self.take_choice((wanted,))

    def take_name(self):
        word = self.next_word()
        if not is_name(word):
            raise Fault(BAD_VALUE, self.place)
        return word

    def take_number(self, low, high):
        """The next word as a number from low to high."""
        value = number_of(self.next_word())
        if value is None or value < low or value > high:
            raise Fault(BAD_VALUE, self.place)
        return value

    def take_rule(self, wanted, low, high):
        """The number behind the wanted word."""
        self.take_fixed(wanted)
        return self.take_number(low, high)

    def finish(self):
        """A fault at the next word if there is one."""
        if self.any_left():
            self.next_word()
            raise Fault(BAD_WORD, self.place)


def bytes_of(words):
    return [ord(sign) for sign in words]


def is_letter(byte):
    return LETTER_A <= byte <= LETTER_Z


def is_digit(byte):
    return DIGIT_0 <= byte <= DIGIT_9


def is_name(word):
    if len(word) > MOST_NAME or not is_letter(word[0]):
        return False
    for byte in word:
        if not is_letter(byte) and not is_digit(byte):
            return False
    return True


def number_of(word):
    """The number that a word is; None if it's none, or above every bound of a card."""
    if len(word) > MOST_DIGITS:
        return None
    if word[0] == DIGIT_0 and len(word) > 1:
        return None
    value = 0
    for byte in word:
        if not is_digit(byte):
            return None
        value = value * 10 + byte - DIGIT_0
    return value


def line_end(text, start):
    """The place of the NL that ends the line from start on."""
    for place in range(start, len(text)):
        if text[place] == NL:
            return place
    raise Fault(NOT_ENDED, len(text))


def is_bad_byte(text, place, start, end):
    byte = text[place]
    if byte == BLANK:
        return place == start or place == end - 1 or text[place - 1] == BLANK
    return byte < BLANK or byte > LAST_SIGN


def check_bytes(text, start, end):
    if start == end:
        raise Fault(BAD_BYTE, end)
    for place in range(start, end):
        if is_bad_byte(text, place, start, end):
            raise Fault(BAD_BYTE, place)


def split_words(text, start, end):
    """The words from start to end, each with its place in front."""
    words = []
    first = start
    for place in range(start, end + 1):
        if place == end or text[place] == BLANK:
            words.append((first, text[first:place]))
            first = place + 1
    return words


def line_from(text, start):
    """The line from start on, once its end and its bytes are found good."""
    end = line_end(text, start)
    check_bytes(text, start, end)
    return Line(split_words(text, start, end), end)
