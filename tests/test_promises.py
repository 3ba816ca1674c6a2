"""H1 and H5 over many texts, held against the document's words in a slow form."""

import random
import unittest

from helper import PRINTED, SIZE, ask, book, book_answer, lines_with_places, name, printed, slow_book, tenths

NAMES = ("A", "B", "C", "d4", "Ee")
HEIGHTS = ("0", "1", "-1", "01.0", "-1.00", "0.5", "-0.50", "-0", "2", "00.10", "-2.000", "0.0001")


def right_line(chance, levels):
    """A line by which no text is broken: names that are told, and the height between their levels."""
    untold = [each for each in NAMES if each not in levels]
    if untold and (len(levels) < 2 or chance.random() < 0.3):
        levels[untold[0]] = chance.randrange(-3, 4)
        return "mark %s\n" % untold[0]
    first, second = chance.sample(sorted(levels), 2)
    rise = levels[second] - levels[first]
    return "over %s %s %s\n" % (first, second, chance.choice(("%d", "%d.0", "%d.0000")) % rise)


def any_line(chance):
    if chance.random() < 0.3:
        return "mark %s\n" % chance.choice(NAMES)
    return "over %s %s %s\n" % (chance.choice(NAMES), chance.choice(NAMES), chance.choice(HEIGHTS))


def some_text(chance):
    levels = {}
    parts = [right_line(chance, levels) for turn in range(chance.randrange(12))]
    parts += [any_line(chance) for turn in range(chance.randrange(3))]
    text = "".join(parts)
    if chance.random() < 0.2:
        at = chance.randrange(len(text) + 1)
        text = text[:at] + chance.choice("mo 0A.-\n~") + text[at + chance.randrange(2):]
    return text


def texts():
    chance = random.Random(20)
    return [some_text(chance) for turn in range(1500)]


class Promises(unittest.TestCase):
    def test_book_answers_what_the_words_say(self):
        seen = {}
        for text in texts():
            expected = slow_book(text)
            self.assertEqual(book_answer(text), expected, text)
            kind = tuple(expected[:2])
            seen[kind] = seen.get(kind, 0) + 1
        # each kind but 4, which takes a long text, must be among them to be held at all
        self.assertEqual(sorted(seen), [(-6, 1), (-6, 2), (-6, 3), (-6, 5), (-6, 6), (0,)])
        self.assertGreater(min(seen.values()), 20)

    def test_h1_printed_is_right_and_tells_the_same(self):
        for text in texts():
            if book_answer(text) != [0]:
                continue
            once = printed(text)
            self.assertEqual(printed(once), once)
            asked = [SIZE] + [name(mark) for mark in range(len(NAMES) + 1)]
            self.assertEqual(ask(book(text), *asked), ask(book(once), *asked))
            before = [[word for place, word in words] for words in lines_with_places(text)]
            after = [[word for place, word in words] for words in lines_with_places(once)]
            self.assertEqual([words[:3] for words in before], [words[:3] for words in after])
            for old, new in zip(before, after):
                self.assertEqual([tenths(word) for word in old[3:]], [tenths(word) for word in new[3:]])

    def test_h1_a_fault_of_the_printed_text_has_the_same_ring(self):
        front = "mark A\nmark B\nmark C\nover A B 01.50\nover C B -0.0500\n"
        for line in ("over A C 0\n", "over C A 0\n", "over B A 1.5\n"):
            self.assertEqual(book_answer(front + line)[3:], book_answer(printed(front) + line)[3:])

    def test_h5_the_ring_closes_and_does_not_come_to_0(self):
        for text in texts():
            answer = book_answer(text)
            if answer[:2] != [-6, 6]:
                continue
            overs = [[word for place, word in words[1:]] for words in lines_with_places(text) if len(words) == 4]
            count, ring, gap = answer[3], answer[4:-1], answer[-1]
            self.assertEqual(count, len(ring))
            self.assertEqual(len(set(ring)), len(ring))
            self.assertEqual(max(ring), ring[0])
            here = overs[ring[0]][0]
            round_it = 0
            for number in ring:
                first, second, height = overs[number]
                self.assertIn(here, (first, second))
                round_it += tenths(height) if here == first else -tenths(height)
                here = second if here == first else first
            self.assertEqual(here, overs[ring[0]][0])
            self.assertEqual(round_it, gap)
            self.assertNotEqual(gap, 0)

    def test_h5_the_text_before_the_line_is_right(self):
        for text in texts():
            answer = book_answer(text)
            if answer[:2] == [-6, 6]:
                before = text[:text.rindex("\n", 0, answer[2]) + 1]
                self.assertEqual(ask(book(before), PRINTED)[0], [0])


if __name__ == "__main__":
    unittest.main()
