"""H1 to H6 over many texts, held against the document's words in a slow form."""

import random
import unittest

from helper import PRINTED, SIZE, SlowBook, ask, ask_right, book, book_answer, ends, find, lines_with_places, name, over
from helper import printed, slow_book, tenths, way

NAMES = ("A", "B", "C", "d4", "Ee")
HEIGHTS = ("0", "1", "-1", "01.0", "-1.00", "0.5", "-0.50", "-0", "2", "00.10", "-2.000", "0.0001")


def right_line(chance, levels):
    """A line by which no text is broken: names that are told, and the height between their levels."""
    untold = [each for each in NAMES if each not in levels]
    if untold and (len(levels) < 2 or chance.random() < 0.3):
        levels[untold[0]] = chance.randrange(-3, 4)
        return "mark %s\n" % untold[0]
    first, second = chance.sample(sorted(levels), 2)
    rise = levels[second] - levels[first]
    return "over %s %s %s\n" % (first, second, chance.choice(("%d", "%d.0", "%d.0000")) % rise)


def any_line(chance):
    if chance.random() < 0.3:
        return "mark %s\n" % chance.choice(NAMES)
    return "over %s %s %s\n" % (chance.choice(NAMES), chance.choice(NAMES), chance.choice(HEIGHTS))


def some_text(chance):
    levels = {}
    parts = [right_line(chance, levels) for turn in range(chance.randrange(12))]
    parts += [any_line(chance) for turn in range(chance.randrange(3))]
    text = "".join(parts)
    if chance.random() < 0.2:
        at = chance.randrange(len(text) + 1)
        text = text[:at] + chance.choice("mo 0A.-\n~") + text[at + chance.randrange(2):]
    return text


def texts():
    chance = random.Random(20)
    return [some_text(chance) for turn in range(1500)]


def height_written(chance, height):
    before, behind = divmod(abs(height), 10000)
    written = "%s%d.%04d" % ("-" if height < 0 else "", before, behind)
    return written.rstrip("0").rstrip(".") if chance.random() < 0.5 else written


def right_text(chance):
    """Marks at some level each, and lines between some of them, told where their marks are."""
    levels = {}
    lines = []
    for each in chance.sample(("A", "B", "C", "d4", "Ee", "F", "G7"), chance.randrange(8)):
        levels[each] = chance.choice((-30001, -5, 0, 0, 70, 10000, chance.randrange(-10 ** 7, 10 ** 7)))
        lines.append("mark %s\n" % each)
        while len(levels) > 1 and chance.random() < 0.55:
            one, other = chance.sample(sorted(levels), 2)
            lines.append("over %s %s %s\n" % (one, other, height_written(chance, levels[other] - levels[one])))
    return "".join(lines)


def right_texts():
    chance = random.Random(21)
    return [right_text(chance) for turn in range(400)]


def pairs(count):
    return [(one, other) for one in range(count) for other in range(count)]


def overs_of(text):
    """A right text's answers of over, by its marks' numbers."""
    both = pairs(len(SlowBook(text).names))
    return dict(zip(both, ask_right(text, *[over(one, other) for one, other in both])))


def overs_by_name(text):
    names = SlowBook(text).names
    found = [answer[1] for answer in ask_right(text, *[find(each) for each in names])]
    overs = overs_of(text)
    return {(one, other): overs[found[names.index(one)], found[names.index(other)]] for one in names for other in names}


def another_order(chance, text):
    """The text's lines in an order in which each mark is told before it's used."""
    left = text.splitlines(keepends=True)
    told = []
    order = []
    while left:
        ready = [line for line in left if line[0] == "m" or set(line.split()[1:3]) <= set(told)]
        line = chance.choice(ready)
        left.remove(line)
        order.append(line)
        if line[0] == "m":
            told.append(line.split()[1])
    return "".join(order)


class Promises(unittest.TestCase):
    def test_book_answers_what_the_words_say(self):
        seen = {}
        for text in texts():
            expected = slow_book(text)
            self.assertEqual(book_answer(text), expected, text)
            kind = tuple(expected[:2])
            seen[kind] = seen.get(kind, 0) + 1
        # each kind but 4, which takes a long text, must be among them to be held at all
        self.assertEqual(sorted(seen), [(-6, 1), (-6, 2), (-6, 3), (-6, 5), (-6, 6), (0,)])
        self.assertGreater(min(seen.values()), 20)

    def test_h1_printed_is_right_and_tells_the_same(self):
        for text in texts():
            if book_answer(text) != [0]:
                continue
            once = printed(text)
            self.assertEqual(printed(once), once)
            asked = [SIZE] + [find(each) for each in NAMES]
            asked += [call(mark) for call in (name, ends) for mark in range(len(NAMES) + 1)]
            asked += [call(one, other) for call in (over, way) for one, other in pairs(len(NAMES) + 1)]
            self.assertEqual(ask(book(text), *asked), ask(book(once), *asked))
            before = [[word for place, word in words] for words in lines_with_places(text)]
            after = [[word for place, word in words] for words in lines_with_places(once)]
            self.assertEqual([words[:3] for words in before], [words[:3] for words in after])
            for old, new in zip(before, after):
                self.assertEqual([tenths(word) for word in old[3:]], [tenths(word) for word in new[3:]])

    def test_h1_a_fault_of_the_printed_text_has_the_same_ring(self):
        front = "mark A\nmark B\nmark C\nover A B 01.50\nover C B -0.0500\n"
        for line in ("over A C 0\n", "over C A 0\n", "over B A 1.5\n"):
            self.assertEqual(book_answer(front + line)[3:], book_answer(printed(front) + line)[3:])

    def test_h5_the_ring_closes_and_does_not_come_to_0(self):
        for text in texts():
            answer = book_answer(text)
            if answer[:2] != [-6, 6]:
                continue
            overs = [[word for place, word in words[1:]] for words in lines_with_places(text) if len(words) == 4]
            count, ring, gap = answer[3], answer[4:-1], answer[-1]
            self.assertEqual(count, len(ring))
            self.assertEqual(len(set(ring)), len(ring))
            self.assertEqual(max(ring), ring[0])
            here = overs[ring[0]][0]
            round_it = 0
            for number in ring:
                first, second, height = overs[number]
                self.assertIn(here, (first, second))
                round_it += tenths(height) if here == first else -tenths(height)
                here = second if here == first else first
            self.assertEqual(here, overs[ring[0]][0])
            self.assertEqual(round_it, gap)
            self.assertNotEqual(gap, 0)

    def test_h5_the_text_before_the_line_is_right(self):
        for text in texts():
            answer = book_answer(text)
            if answer[:2] == [-6, 6]:
                before = text[:text.rindex("\n", 0, answer[2]) + 1]
                self.assertEqual(ask(book(before), PRINTED)[0], [0])


class RightTexts(unittest.TestCase):
    def test_answers_are_what_the_words_say(self):
        seen = {"apart": 0, "agrees": 0, "long way": 0, "several lowest": 0}
        for text in right_texts():
            slow = SlowBook(text)
            names = slow.names
            both = pairs(len(names))
            overs = [slow.over(names[one], names[other]) for one, other in both]
            ways = [slow.way(names[one], names[other]) for one, other in both]
            tops = [slow.ends(each) for each in names]
            expected = [[0] if height is None else [1, height] for height in overs]
            expected += [[0] if lines is None else [1, len(lines)] + lines for lines in ways]
            expected += [[0] + told for told in tops] + [[0, mark] for mark in range(len(names))]
            expected += [[0, len(names), len(slow.lines), len({tuple(slow.group(each)) for each in names})]]
            asked = [call(one, other) for call in (over, way) for one, other in both]
            asked += [ends(mark) for mark in range(len(names))] + [find(each) for each in names] + [SIZE]
            self.assertEqual(ask_right(text, *asked), expected, text)
            seen["apart"] += None in overs
            seen["agrees"] += len(slow.joined) < len(slow.lines)
            seen["long way"] += any(len(lines or []) > 3 for lines in ways)
            seen["several lowest"] += any(slow.over(names[told[1]], each) == 0 for told in tops for each in names[told[1] + 1:])
        # what the sample doesn't have is not held by it
        self.assertGreater(min(seen.values()), 20, seen)

    def test_h2_over_goes_both_ways_and_over_one_between(self):
        for text in right_texts():
            overs = overs_of(text)
            count = len(SlowBook(text).names)
            for one, other in pairs(count):
                there, back = overs[one, other], overs[other, one]
                self.assertEqual(back, [0] if there == [0] else [1, -there[1]])
                for third in range(count):
                    onward = overs[other, third]
                    if there != [0] and onward != [0]:
                        self.assertEqual(overs[one, third], [1, there[1] + onward[1]])

    def test_h3_each_line_says_what_over_tells(self):
        for text in right_texts():
            overs = overs_by_name(text)
            for first, second, height in SlowBook(text).lines:
                self.assertEqual(overs[first, second], [1, height])

    def test_h4_the_ways_lines_come_to_what_over_tells(self):
        for text in right_texts():
            slow = SlowBook(text)
            overs = overs_of(text)
            ways = ask_right(text, *[way(one, other) for one, other in overs])
            for (start, goal), answer in zip(overs, ways):
                if overs[start, goal] == [0]:
                    self.assertEqual(answer, [0])
                    continue
                self.assertEqual(answer[:2], [1, len(answer) - 2])
                self.assertEqual(len(set(answer[2:])), answer[1])
                here, risen = slow.names[start], 0
                for number in answer[2:]:
                    first, second, height = slow.lines[number]
                    self.assertIn(here, (first, second))
                    risen += height if here == first else -height
                    here = second if here == first else first
                self.assertEqual((here, [1, risen]), (slow.names[goal], overs[start, goal]))

    def test_h6_another_order_tells_the_same_heights(self):
        chance = random.Random(22)
        moved = 0
        for text in right_texts():
            overs = overs_by_name(text)
            for turn in range(3):
                order = another_order(chance, text)
                self.assertEqual(overs_by_name(order), overs, (text, order))
                moved += SlowBook(order).names != SlowBook(text).names
        self.assertGreater(moved, 100)

    def test_h6_lines_that_joined_may_be_others(self):
        front = "mark A\nmark B\nmark C\n"
        lines = ("over A B 1\n", "over B C 2\n", "over C A -3\n")
        first = ask_right(front + "".join(lines), over(0, 2), way(0, 2), ends(1))
        second = ask_right(front + "".join(lines[::-1]), over(0, 2), way(0, 2), ends(1))
        self.assertEqual(first, [[1, 30000], [1, 2, 0, 1], [0, 3, 0, 2]])
        self.assertEqual(second, [[1, 30000], [1, 1, 0], [0, 3, 0, 2]])


if __name__ == "__main__":
    unittest.main()
