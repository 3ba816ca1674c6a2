"""A book: the marks and over lines of a right text, read line by line."""

from markheights.forest import Forest
from markheights.grammar import MarkLine
from markheights.grammar import lines_of
from markheights.heights import height_of
from markheights.heights import printed_height
from markheights.refusals import AtFault

KIND_NAME_TAKEN = 2
KIND_NAME_UNTOLD = 3
KIND_TOO_MANY_MARKS = 4
KIND_SAME_NAMES = 5
KIND_DISAGREES = 6

MOST_MARKS = 1024


class Book:
    def __init__(self):
        self.names = []
        self.mark_numbers = {}
        self.over_lines = 0
        self.forest = Forest()
        self.printed = []

    def add_mark_line(self, line):
        # a name that is taken is told before one mark too many, as both have one place
        if line.name.signs in self.mark_numbers:
            raise AtFault(KIND_NAME_TAKEN, line.name.place, [])
        if len(self.names) == MOST_MARKS:
            raise AtFault(KIND_TOO_MANY_MARKS, line.name.place, [])
        self.mark_numbers[line.name.signs] = len(self.names)
        self.names.append(line.name.signs)
        self.forest.add_mark()
        self.note_printed("mark ", [line.name.signs])

    def add_over_line(self, line):
        first = self.told_mark(line.first)
        second = self.told_mark(line.second)
        if first == second:
            raise AtFault(KIND_SAME_NAMES, line.second.place, [])
        height = height_of(line.height.signs)
        if not self.forest.together(first, second):
            self.forest.add_line(self.over_lines, first, second, height)
        elif self.forest.rise(first, second) != height:
            raise AtFault(KIND_DISAGREES, line.height.place, self.ring_told(first, second, height))
        self.over_lines += 1
        self.note_printed("over ", [line.first.signs, line.second.signs, printed_height(height)])

    def told_mark(self, name):
        if name.signs not in self.mark_numbers:
            raise AtFault(KIND_NAME_UNTOLD, name.place, [])
        return self.mark_numbers[name.signs]

    # The ring goes by the new line to its second mark, and back by the lines before it.
    def ring_told(self, first, second, height):
        ring = [self.over_lines] + self.forest.way(second, first)
        gap = height + self.forest.rise(second, first)
        return [len(ring)] + ring + [gap]

    def note_printed(self, opening, words):
        self.printed.extend([ord(sign) for sign in opening])
        self.printed.extend(words[0])
        for word in words[1:]:
            self.printed.append(ord(" "))
            self.printed.extend(word)
        self.printed.append(ord("\n"))


# The lines are gone through in their order, so the first fault that's met is the first by its place.
def read_book(text):
    book = Book()
    for line in lines_of(text):
        if isinstance(line, MarkLine):
            book.add_mark_line(line)
        else:
            book.add_over_line(line)
    return book
