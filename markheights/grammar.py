"""A book's text taken apart into its lines, or refused where no text of the grammar goes on."""

from markheights.refusals import AtFault

KIND_GRAMMAR = 1

LONGEST_NAME = 16
MOST_DIGITS = 4

MINUS = 45
POINT = 46

# no byte is below 0, so this one fits nowhere in the grammar
BEHIND_THE_END = -1


class Word:
    # the place is kept because faults are told by it
    def __init__(self, place, signs):
        self.place = place
        self.signs = signs


class MarkLine:
    def __init__(self, name):
        self.name = name


class OverLine:
    def __init__(self, first, second, height):
        self.first = first
        self.second = second
        self.height = height


def is_letter(sign):
    return 65 <= sign <= 90 or 97 <= sign <= 122


def is_digit(sign):
    return 48 <= sign <= 57


class Reader:
    # Whatever was taken so far can be brought to an end in some way, whichever signs they were.
    # So the first sign that doesn't fit stands at the fault's place.
    def __init__(self, text):
        self.text = text
        self.at = 0

    def at_end(self):
        return self.at == len(self.text)

    def sign(self):
        return BEHIND_THE_END if self.at_end() else self.text[self.at]

    def step(self, fits):
        if not fits:
            raise AtFault(KIND_GRAMMAR, self.at, [])
        self.at += 1

    def word_from(self, place):
        return Word(place, tuple(self.text[place:self.at]))

    def take_written(self, written):
        for letter in written:
            self.step(self.sign() == ord(letter))

    def take_name(self):
        place = self.at
        self.step(is_letter(self.sign()))
        while self.at - place < LONGEST_NAME and (is_letter(self.sign()) or is_digit(self.sign())):
            self.at += 1
        return self.word_from(place)

    def take_digits(self):
        place = self.at
        self.step(is_digit(self.sign()))
        while self.at - place < MOST_DIGITS and is_digit(self.sign()):
            self.at += 1

    def take_height(self):
        place = self.at
        if self.sign() == MINUS:
            self.at += 1
        self.take_digits()
        if self.sign() == POINT:
            self.at += 1
            self.take_digits()
        return self.word_from(place)

    def take_mark_line(self):
        self.take_written("mark ")
        name = self.take_name()
        self.take_written("\n")
        return MarkLine(name)

    def take_over_line(self):
        self.take_written("over ")
        first = self.take_name()
        self.take_written(" ")
        second = self.take_name()
        self.take_written(" ")
        height = self.take_height()
        self.take_written("\n")
        return OverLine(first, second, height)

    def take_line(self):
        # the two lines differ in their first sign already
        if self.sign() == ord("m"):
            return self.take_mark_line()
        return self.take_over_line()


def lines_of(text):
    reader = Reader(text)
    lines = []
    while not reader.at_end():
        lines.append(reader.take_line())
    return lines
