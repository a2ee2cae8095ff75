"""A text's bytes taken apart into lines and words."""

NEWLINE = 10
BLANK = 32
LAST_SIGN = 126
SMALL_A = 97
SMALL_Z = 122
ZERO = 48
NINE = 57
UNDERLINE = 95
LETTERS = "abcdefghijklmnopqrstuvwxyz"
DIGITS = "0123456789"
OTHER = "?"
LONGEST_NAME = 12
LONGEST_NUMBER = 4


class Fault(Exception):
    """What is wrong with a text: the kind of the fault, and its place."""

    def __init__(self, kind, place):
        self.kind = kind
        self.place = place


class Word:
    """One word, and the place of its first byte."""

    def __init__(self, letters, place):
        self.letters = letters
        self.place = place


class Line:
    """The words of one line, to be taken from left to right."""

    def __init__(self, words, finish):
        self.words = words
        self.finish = finish
        self.taken = 0

    def more(self):
        """Whether a word is left."""
        return self.taken < len(self.words)

    def take(self):
        """The next word; a missing one is told at the line's end."""
        if not self.more():
            raise Fault(3, self.finish)
        word = self.words[self.taken]
        self.taken += 1
        return word

    def last_place(self):
        """The place of the word that was taken last."""
        return self.words[self.taken - 1].place

    def comes(self, letters):
        """Whether the next word, which there has to be, is this one."""
        return self.words[self.taken].letters == letters


def next_line(text, start):
    """The line that begins at start, with its bytes looked at."""
    finish = line_end(text, start)
    check_bytes(text, start, finish)
    return Line(words_between(text, start, finish), finish)


def line_end(text, start):
    """Where the NL is that ends the line."""
    for place in range(start, len(text)):
        if text[place] == NEWLINE:
            return place
    raise Fault(1, len(text))


def check_bytes(text, start, finish):
    """Tell the first byte of the line that may not be where it is."""
    for place in range(start, finish):
        byte = text[place]
        if byte < BLANK or byte > LAST_SIGN:
            raise Fault(2, place)
        if byte == BLANK and is_stray(text, start, place, finish):
            raise Fault(2, place)


def is_stray(text, start, place, finish):
    """Whether the blank at place doesn't stand between two words."""
    return place == start or text[place - 1] == BLANK or place + 1 == finish


def words_between(text, start, finish):
    """The words of a line whose bytes are right."""
    words = []
    if start == finish:
        return words
    first = start
    for place in range(start, finish + 1):
        if place == finish or text[place] == BLANK:
            words.append(Word(spelled(text[first:place]), first))
            first = place + 1
    return words


def spelled(row):
    """The bytes as a text."""
    return "".join([sign_of(byte) for byte in row])


def sign_of(byte):
    """The byte's letter."""
    if SMALL_A <= byte <= SMALL_Z:
        return LETTERS[byte - SMALL_A]
    if ZERO <= byte <= NINE:
        return DIGITS[byte - ZERO]
    if byte == UNDERLINE:
        return "_"
    # No name, number or fixed word has any other byte, so which it is doesn't matter.
    return OTHER


def is_name(letters):
    """Whether this can be a name."""
    return len(letters) <= LONGEST_NAME and letters[0] in LETTERS and OTHER not in letters


def take_fixed(line, letters):
    """Take a word that has to be this one."""
    word = line.take()
    if word.letters != letters:
        raise Fault(3, word.place)


def take_name(line):
    """Take a word that has to be a name."""
    word = line.take()
    if not is_name(word.letters):
        raise Fault(4, word.place)
    return word


def take_number(line, least, most):
    """Take a number within its bounds."""
    word = line.take()
    number = number_of(word)
    if number < least or number > most:
        raise Fault(4, word.place)
    return number


def number_of(word):
    """The number that the word writes; none of a table's has more than four digits."""
    letters = word.letters
    # Python itself refuses to read very long numbers, so they are told before.
    if not letters.isdigit() or len(letters) > LONGEST_NUMBER:
        raise Fault(4, word.place)
    if letters[0] == "0" and len(letters) > 1:
        raise Fault(4, word.place)
    return int(letters)


def end_line(line):
    """Tell a word behind the line's last."""
    if line.more():
        raise Fault(3, line.words[line.taken].place)
