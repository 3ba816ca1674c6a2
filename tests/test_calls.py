"""The calls on one object: printed, size, name, and what is kept between them."""

import unittest

from helper import PRINTED, SIZE, ask, book, many_names, marks, name, printed
from markheights.datums import NotBuilt, answers

SMALL = marks("A", "Bolt7") + "over A Bolt7 02.50\n"
LATER_CALLS = ([4, 1, 65], [4, 0], [5, 0, 0], [6, 0, 1], [7, 0])


class WithoutABook(unittest.TestCase):
    def test_all_but_book_answer_minus_3(self):
        for call in (PRINTED, SIZE, name(0), name(4294967295)) + LATER_CALLS:
            self.assertEqual(ask(call), [[-3]], call)

    def test_calls_are_taken_apart_to_their_ends(self):
        row = [4, 3, 0, 0, 0]
        calls = list(LATER_CALLS) + [row, book("mark A\n"), SIZE]
        self.assertEqual(ask(*calls), [[-3]] * 6 + [[0], [0, 1, 0, 1]])

    def test_a_refused_book_is_none(self):
        self.assertEqual(ask(book("x"), PRINTED, SIZE, name(0)), [[-6, 1, 0], [-3], [-3], [-3]])

    def test_an_empty_book_is_one(self):
        self.assertEqual(ask(book(""), PRINTED, SIZE, name(0)), [[0], [0, 0], [0, 0, 0, 0], [-4]])


class Answers(unittest.TestCase):
    def test_the_one_list(self):
        text = list(SMALL.encode())
        told = answers([2, 0, len(text)] + text + [2, 3, 1, 3, 2, 1, 0, 1, 63])
        shown = list(SMALL.replace("02.50", "2.5").encode())
        expected = [1, -3, 1, 0, 4, 0, 2, 1, 1, 7, 0, 5] + list(b"Bolt7") + [1, -4]
        expected += [2 + len(shown), 0, len(shown)] + shown + [3, -6, 1, 0]
        self.assertEqual(told, expected)

    def test_whole_numbers_in_a_list(self):
        ring = SMALL + "over Bolt7 A 2.5\n"
        calls = book(SMALL) + PRINTED + SIZE + name(0) + name(2) + book(ring) + book("?")
        told = answers(calls)
        self.assertIs(type(told), list)
        self.assertTrue(all(type(number) is int for number in told))

    def test_later_calls_are_not_answered_wrongly(self):
        for call in LATER_CALLS:
            with self.assertRaises(NotBuilt):
                ask(book(SMALL), call)


class Sizes(unittest.TestCase):
    def size(self, text):
        taken, size = ask(book(text), SIZE)
        self.assertEqual(taken, [0])
        return size

    def test_groups(self):
        text = marks("A", "B", "C", "D", "E")
        self.assertEqual(self.size(text), [0, 5, 0, 5])
        text += "over A B 1\n"
        self.assertEqual(self.size(text), [0, 5, 1, 4])
        text += "over D C 1\nover C D -1\n"
        self.assertEqual(self.size(text), [0, 5, 3, 3])
        text += "over D A 1\n"
        self.assertEqual(self.size(text), [0, 5, 4, 2])
        text += "over C B 1\n"
        self.assertEqual(self.size(text), [0, 5, 5, 2])
        text += "mark F\nover E F 0\n"
        self.assertEqual(self.size(text), [0, 6, 6, 2])

    def test_the_greatest_book(self):
        names = many_names(1024)
        text = marks(*names)
        while len(text) + 13 <= 29990:
            text += "over %s AA 0\n" % names[1 + text.count("over") % 1023]
        lines = text.count("over")
        self.assertGreater(lines, 1023)
        self.assertEqual(ask(book(text), SIZE), [[0], [0, 1024, lines, 1]])


class Names(unittest.TestCase):
    def test_in_the_order_they_are_told(self):
        text = marks("z", "A") + "over z A 1\n" + marks("Long5678Long5678")
        found = ask(book(text), name(0), name(1), name(2))
        self.assertEqual(found[1:], [[0, 1, 122], [0, 1, 65], [0, 16] + list(b"Long5678Long5678")])

    def test_just_inside_and_just_outside(self):
        text = marks("A", "B", "C")
        self.assertEqual(ask(book(text), name(2), name(3), name(4294967295))[1:], [[0, 1, 67], [-4], [-4]])
        names = many_names(1024)
        found = ask(book(marks(*names)), name(1023), name(1024))
        self.assertEqual(found[1:], [[0, 2] + list(names[1023].encode()), [-4]])


class Printed(unittest.TestCase):
    FRONT = marks("A", "B") + "over A B "

    def test_heights(self):
        shown = {
            "0": "0", "-0": "0", "0000": "0", "-0000.0000": "0", "0.0": "0", "00.10": "0.1", "-0.0500": "-0.05",
            "7": "7", "007": "7", "-007": "-7", "10": "10", "0010": "10", "1000": "1000", "-9999": "-9999",
            "1.0": "1", "10.0000": "10", "-10.00": "-10", "1.5": "1.5", "1.50": "1.5", "01.0500": "1.05",
            "9999.9999": "9999.9999", "-9999.9999": "-9999.9999", "0.0001": "0.0001", "-0.0001": "-0.0001",
            "100.001": "100.001", "0100.1000": "100.1", "1.0101": "1.0101", "12.034": "12.034", "-0.9": "-0.9",
        }
        for height, expected in shown.items():
            once = printed(self.FRONT + height + "\n")
            self.assertEqual(once, self.FRONT + expected + "\n", height)
            self.assertEqual(printed(once), once, height)

    def test_digits_before_and_behind_the_point(self):
        for before in ("1", "12", "123", "1234"):
            for behind in ("1", "12", "123", "1234"):
                text = self.FRONT + before + "." + behind + "\n"
                self.assertEqual(printed(text), text)

    def test_all_else_as_it_stands(self):
        text = marks("b", "A00", "Q0") + "over A00 b 1\n" + marks("C") + "over C Q0 -2\nover b A00 -1\n"
        self.assertEqual(printed(text), text)
        self.assertEqual(printed(""), "")

    def test_a_height_is_told_in_tenths_of_a_millimetre(self):
        heights = {"1": 10000, "0.1": 1000, "0.01": 100, "0.001": 10, "0.0001": 1, "-0.0500": -500, "12.034": 120340}
        for height, told in heights.items():
            text = marks("A", "B") + "over A B 0\nover A B " + height + "\n"
            self.assertEqual(ask(book(text))[0][-1], told, height)


class OneBookAfterAnother(unittest.TestCase):
    def test_a_refused_book_leaves_the_one_before(self):
        bad = (
            "mark A",
            marks("X", "X"),
            marks("X") + "over X Y 1\n",
            marks("X", "Y") + "over X Y 1\nover Y Z 1\n",
            marks(*many_names(1025)),
            marks("X", "Y", "Z") + "over X X 1\n",
            marks("X", "Y", "Z") + "over X Y 1\nover Y X 1\n",
        )
        before = ask(book(SMALL), PRINTED, SIZE, name(0), name(1), name(2))
        for text in bad:
            after = ask(book(SMALL), book(text), PRINTED, SIZE, name(0), name(1), name(2))
            self.assertEqual(after[1][0], -6)
            self.assertEqual(after[2:], before[1:])

    def test_a_right_book_takes_its_place(self):
        found = ask(book(SMALL), book(marks("Q")), SIZE, name(0), name(1), PRINTED)
        self.assertEqual(found[2:], [[0, 1, 0, 1], [0, 1, 81], [-4], [0, 7] + list(b"mark Q\n")])

    def test_names_of_the_book_before_are_not_told(self):
        self.assertEqual(ask(book(SMALL), book(SMALL)), [[0], [0]])
        self.assertEqual(ask(book(SMALL), book("over A Bolt7 1\n"))[1], [-6, 3, 5])

    def test_asking_changes_nothing(self):
        asked = [PRINTED, SIZE, name(0), name(9)]
        found = ask(book(SMALL), *(asked + asked))
        self.assertEqual(found[1:5], found[5:])


class HandedIn(unittest.TestCase):
    CALLS = book(SMALL) + book(SMALL + "over A Bolt7 1\n") + PRINTED + SIZE + name(1) + book("?")

    def test_the_list_is_as_it_was(self):
        calls = list(self.CALLS)
        answers(calls)
        self.assertEqual(calls, self.CALLS)

    def test_the_list_is_not_changed_for_a_while_either(self):
        class Still(list):
            def refuse(self, *given):
                raise AssertionError("changed")
            append = extend = insert = pop = remove = clear = sort = reverse = refuse
            __setitem__ = __delitem__ = __iadd__ = __imul__ = refuse
        self.assertEqual(answers(Still(self.CALLS)), answers(list(self.CALLS)))

    def test_nothing_is_kept_from_one_time_to_the_next(self):
        first = answers(self.CALLS)
        self.assertEqual(ask(SIZE), [[-3]])
        self.assertEqual(answers(self.CALLS), first)
        first.clear()
        self.assertNotEqual(answers(self.CALLS), [])

    def test_400_calls_on_a_long_book(self):
        names = many_names(1024)
        text = marks(*names) + "".join("over %s %s 1\n" % pair for pair in zip(names, names[1:]))
        found = ask(book(text), *([PRINTED] * 399))
        self.assertEqual(found[399], [0, len(text)] + list(text.encode()))


if __name__ == "__main__":
    unittest.main()
