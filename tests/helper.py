"""Calls made and answers taken apart for the tests, and the document's words in a plain slow form."""

import re
from fractions import Fraction

from markheights.datums import answers

PRINTED = [1]
SIZE = [2]


def book(text):
    signs = list(text.encode("latin-1"))
    return [0, len(signs)] + signs


def name(mark):
    return [3, mark]


def find(row):
    """The call find, of a text or of bytes."""
    signs = list(row.encode("latin-1") if isinstance(row, str) else row)
    return [4, len(signs)] + signs


def over(lower, upper):
    return [5, lower, upper]


def way(start, goal):
    return [6, start, goal]


def ends(mark):
    return [7, mark]


def ask(*calls):
    """The calls' answers, a list for each."""
    told = answers([number for call in calls for number in call])
    apart = []
    at = 0
    while at < len(told):
        apart.append(told[at + 1:at + 1 + told[at]])
        at += 1 + told[at]
    assert at == len(told) and len(apart) == len(calls)
    return apart


def book_answer(text):
    return ask(book(text))[0]


def printed(text):
    """A right text's printed form, as a text."""
    taken, answer = ask(book(text), PRINTED)
    assert taken == [0], taken
    assert answer[0] == 0 and answer[1] == len(answer) - 2
    return bytes(answer[2:]).decode("latin-1")


def ask_right(text, *calls):
    """What the calls answer on the book of this text, which is right."""
    found = ask(book(text), *calls)
    assert found[0] == [0], found[0]
    return found[1:]


def marks(*names):
    return "".join("mark %s\n" % each for each in names)


def many_names(count):
    letters = "ABCDEFGHIJKLMNOPQRSTUVWXYZabcdefghijklmnopqrstuvwxyz"
    names = [one + other for one in letters for other in letters]
    return names[:count]


def chain(names, height):
    """Each name stands by this height over the one before it."""
    return marks(*names) + "".join("over %s %s %s\n" % (one, other, height) for one, other in zip(names, names[1:]))


# From here on: what is answered, told another way than the program does it; for short texts alone.

WHOLE = re.compile(r"(?:(?:mark N|over N N -?[0-9]{1,4}(?:\.[0-9]{1,4})?)\n)*".replace("N", "[A-Za-z][A-Za-z0-9]{0,15}"))
ENDINGS = [line[at:] for line in ("mark A\n", "over A A 0.0\n") for at in range(len(line) + 1)]


def goes_on(beginning):
    return any(WHOLE.fullmatch(beginning + ending) for ending in ENDINGS)


def grammar_fault(text):
    """The place of kind 1, or None."""
    if WHOLE.fullmatch(text):
        return None
    for at in range(len(text)):
        if not goes_on(text[:at + 1]):
            return at
    return len(text)


def lines_with_places(text):
    at = 0
    for line in text.splitlines(keepends=True):
        yield [(at + found.start(), found.group()) for found in re.finditer(r"[^ \n]+", line)]
        at += len(line)


def tenths(height):
    return int(Fraction(height) * 10000)


def all_ways(lines, start, goal, gone=()):
    """Each way from start to goal that goes by no mark twice: pairs of a line's number and its height as it's gone."""
    if start == goal:
        return [[]]
    found = []
    for number, (first, second, height) in enumerate(lines):
        for here, there, rise in ((first, second, height), (second, first, -height)):
            if here == start and there not in gone:
                for rest in all_ways(lines, there, goal, gone + (start,)):
                    found.append([(number, rise)] + rest)
    return found


def slow_book(text):
    """What book answers to the text."""
    place = grammar_fault(text)
    if place is not None:
        return [-6, 1, place]
    told = []
    lines = []
    joined = []
    for words in lines_with_places(text):
        if words[0][1] == "mark":
            if words[1][1] in told:
                return [-6, 2, words[1][0]]
            told.append(words[1][1])
            continue
        for word in words[1:3]:
            if word[1] not in told:
                return [-6, 3, word[0]]
        first, second, height = words[1][1], words[2][1], tenths(words[3][1])
        if first == second:
            return [-6, 5, words[2][0]]
        ways = all_ways(lines, first, second)
        if not ways:
            joined.append(len(lines))
        elif sum(rise for number, rise in ways[0]) != height:
            backs = [way for way in all_ways(lines, second, first) if all(number in joined for number, rise in way)]
            assert len(backs) == 1
            ring = [(len(lines), height)] + backs[0]
            return [-6, 6, words[3][0], len(ring)] + [number for number, rise in ring] + [sum(rise for number, rise in ring)]
        lines.append((first, second, height))
    return [0]


class SlowBook:
    """A right text; it's asked by names."""

    def __init__(self, text):
        lines = [[word for place, word in words] for words in lines_with_places(text)]
        self.names = [words[1] for words in lines if words[0] == "mark"]
        self.lines = [(words[1], words[2], tenths(words[3])) for words in lines if words[0] == "over"]
        self.joined = [number for number, line in enumerate(self.lines)
                       if not all_ways(self.lines[:number], line[0], line[1])]

    def over(self, lower, upper):
        """None if they don't hang together."""
        heights = {sum(rise for number, rise in way) for way in all_ways(self.lines, lower, upper)}
        assert len(heights) < 2
        return heights.pop() if heights else None

    def way(self, start, goal):
        """None if there's none."""
        ways = [[number for number, rise in way] for way in all_ways(self.lines, start, goal)]
        ways = [way for way in ways if all(number in self.joined for number in way)]
        assert len(ways) < 2
        return ways[0] if ways else None

    def group(self, name):
        return [other for other in self.names if self.over(name, other) is not None]

    def ends(self, name):
        """How many hang together with it; the lowest's number; the highest's."""
        group = self.group(name)
        heights = [self.over(name, other) for other in group]
        lowest = group[heights.index(min(heights))]
        highest = group[heights.index(max(heights))]
        return [len(group), self.names.index(lowest), self.names.index(highest)]
