"""The calls on one object: how they're handed in, printed, size, name, and what is kept between calls."""

import random
import unittest

from helper import PRINTED, SIZE, ask, book, chain, ends, find, many_names, marks, name, over, printed, way
from markheights.datums import answers

SMALL = marks("A", "Bolt7") + "over A Bolt7 02.50\n"
OTHER = marks("Q", "A", "B", "C") + "over A Q 3\nover B C 1\nover Q A -3\n"
GREATEST = 4294967295
# each call but book, with what is there in SMALL and what is not
ASKED = [PRINTED, SIZE, name(0), name(1), name(2), find("A"), find("Bolt7"), find("Q"), find("")]
ASKED += [call(one, other) for call in (over, way) for one in range(3) for other in range(3)]
ASKED += [ends(0), ends(1), ends(2), over(GREATEST, 0), way(0, GREATEST), ends(GREATEST), name(GREATEST)]
BAD = (
    "mark A",
    marks("X", "X"),
    marks("X") + "over X Y 1\n",
    marks("X", "Y") + "over X Y 1\nover Y Z 1\n",
    marks(*many_names(1025)),
    marks("X", "Y", "Z") + "over X X 1\n",
    marks("X", "Y", "Z") + "over X Y 1\nover Y X 1\n",
    SMALL + marks("Q") + "over Bolt7 Q 1\nover A Q 1\n",
)


class WithoutABook(unittest.TestCase):
    def test_all_but_book_answer_minus_3(self):
        for call in ASKED:
            self.assertEqual(ask(call), [[-3]], call)
        self.assertEqual(ask(*ASKED), [[-3]] * len(ASKED))

    def test_calls_are_taken_apart_to_their_ends(self):
        calls = ASKED + [find([0, 0, 0]), find([5] * 1000), book("mark A\n"), find([0, 0, 0]), find([5] * 1000), SIZE]
        expected = [[-3]] * (len(ASKED) + 2) + [[0], [-4], [-4], [0, 1, 0, 1]]
        self.assertEqual(ask(*calls), expected)

    def test_a_refused_book_is_none(self):
        for text in BAD:
            found = ask(book(text), *ASKED)
            self.assertEqual(found[0][0], -6)
            self.assertEqual(found[1:], [[-3]] * len(ASKED))

    def test_an_empty_book_is_one(self):
        found = ask(book(""), *ASKED)
        self.assertEqual(found, [[0], [0, 0], [0, 0, 0, 0]] + [[-4]] * (len(ASKED) - 2))


class Answers(unittest.TestCase):
    def test_the_one_list(self):
        text = list(SMALL.encode())
        told = answers([2, 0, len(text)] + text + [2, 3, 1, 3, 2, 1, 0, 1, 63])
        shown = list(SMALL.replace("02.50", "2.5").encode())
        expected = [1, -3, 1, 0, 4, 0, 2, 1, 1, 7, 0, 5] + list(b"Bolt7") + [1, -4]
        expected += [2 + len(shown), 0, len(shown)] + shown + [3, -6, 1, 0]
        self.assertEqual(told, expected)

    def test_find_over_way_and_ends_in_the_one_list(self):
        text = list((SMALL + marks("C")).encode())
        asked = [4, 1, 67, 4, 0, 5, 1, 0, 5, 0, 2, 5, 0, 3, 6, 0, 1, 6, 2, 2, 6, 2, 0, 6, 3, 3, 7, 1, 7, 3]
        told = answers([7, 0, 6, 0, 0, 5, 0, 0, 4, 1, 65, 0, len(text)] + text + asked)
        expected = [1, -3] * 4 + [1, 0] + [2, 0, 2, 1, -4] + [2, 1, -25000, 1, 0, 1, -4]
        expected += [3, 1, 1, 0, 2, 1, 0, 1, 0, 1, -4] + [4, 0, 2, 0, 1, 1, -4]
        self.assertEqual(told, expected)

    def test_whole_numbers_in_a_list(self):
        ring = SMALL + "over Bolt7 A 2.5\n"
        calls = [book(SMALL)] + ASKED + [book(ring), book("?")]
        told = answers([number for call in calls for number in call])
        self.assertIs(type(told), list)
        self.assertTrue(all(type(number) is int for number in told))


def some_call(chance):
    mark = chance.choice((0, 1, 2, 3, 4, GREATEST))
    other = chance.choice((0, 1, 2, 3, 4, GREATEST))
    row = [chance.randrange(256) for turn in range(chance.randrange(20))]
    known = find(chance.choice(("A", "Bolt7", "Q", "")))
    right = book(chance.choice((SMALL, OTHER, "")))
    wrong = book(chance.choice(BAD))
    asked = [PRINTED, SIZE, name(mark), find(row), known, over(mark, other), way(mark, other), ends(mark)]
    return chance.choice(asked * 2 + [right, wrong, [0, len(row)] + row])


class EveryCall(unittest.TestCase):
    def test_calls_in_any_order_are_answered(self):
        chance = random.Random(23)
        for case in range(300):
            calls = [some_call(chance) for turn in range(chance.randrange(1, 40))]
            found = ask(*calls)
            has_book = False
            for call, answer in zip(calls, found):
                refusals = [-6] if call[0] == 0 else [-4] if has_book else [-3]
                self.assertIn(answer[0], ([0, 1] if has_book or call[0] == 0 else []) + refusals)
                has_book = has_book or call[0] == 0 and answer == [0]

    def test_each_call_alone(self):
        for call in ASKED:
            self.assertEqual(ask(call, call), [[-3], [-3]])
        self.assertEqual(ask(book("")), [[0]])

    def test_the_longest_texts_that_are_at_fault(self):
        for byte in (0, 10, 65, 109, 255):
            place = 1 if byte == 109 else 0
            self.assertEqual(answers([0, 29990] + [byte] * 29990), [3, -6, 1, place])
        text = list(b"mark A\n") + [97] * 29983
        self.assertEqual(answers([0, 29990] + text), [3, -6, 1, 7])


class Sizes(unittest.TestCase):
    def size(self, text):
        taken, size = ask(book(text), SIZE)
        self.assertEqual(taken, [0])
        return size

    def test_groups(self):
        text = marks("A", "B", "C", "D", "E")
        self.assertEqual(self.size(text), [0, 5, 0, 5])
        text += "over A B 1\n"
        self.assertEqual(self.size(text), [0, 5, 1, 4])
        text += "over D C 1\nover C D -1\n"
        self.assertEqual(self.size(text), [0, 5, 3, 3])
        text += "over D A 1\n"
        self.assertEqual(self.size(text), [0, 5, 4, 2])
        text += "over C B 1\n"
        self.assertEqual(self.size(text), [0, 5, 5, 2])
        text += "mark F\nover E F 0\n"
        self.assertEqual(self.size(text), [0, 6, 6, 2])

    def test_the_greatest_book(self):
        names = many_names(1024)
        text = marks(*names)
        while len(text) + 13 <= 29990:
            text += "over %s AA 0\n" % names[1 + text.count("over") % 1023]
        lines = text.count("over")
        self.assertGreater(lines, 1023)
        self.assertEqual(ask(book(text), SIZE), [[0], [0, 1024, lines, 1]])


class Names(unittest.TestCase):
    def test_in_the_order_they_are_told(self):
        text = marks("z", "A") + "over z A 1\n" + marks("Long5678Long5678")
        found = ask(book(text), name(0), name(1), name(2))
        self.assertEqual(found[1:], [[0, 1, 122], [0, 1, 65], [0, 16] + list(b"Long5678Long5678")])

    def test_just_inside_and_just_outside(self):
        text = marks("A", "B", "C")
        self.assertEqual(ask(book(text), name(2), name(3), name(4294967295))[1:], [[0, 1, 67], [-4], [-4]])
        names = many_names(1024)
        found = ask(book(marks(*names)), name(1023), name(1024))
        self.assertEqual(found[1:], [[0, 2] + list(names[1023].encode()), [-4]])


class Printed(unittest.TestCase):
    FRONT = marks("A", "B") + "over A B "

    def test_heights(self):
        shown = {
            "0": "0", "-0": "0", "0000": "0", "-0000.0000": "0", "0.0": "0", "00.10": "0.1", "-0.0500": "-0.05",
            "7": "7", "007": "7", "-007": "-7", "10": "10", "0010": "10", "1000": "1000", "-9999": "-9999",
            "1.0": "1", "10.0000": "10", "-10.00": "-10", "1.5": "1.5", "1.50": "1.5", "01.0500": "1.05",
            "9999.9999": "9999.9999", "-9999.9999": "-9999.9999", "0.0001": "0.0001", "-0.0001": "-0.0001",
            "100.001": "100.001", "0100.1000": "100.1", "1.0101": "1.0101", "12.034": "12.034", "-0.9": "-0.9",
        }
        for height, expected in shown.items():
            once = printed(self.FRONT + height + "\n")
            self.assertEqual(once, self.FRONT + expected + "\n", height)
            self.assertEqual(printed(once), once, height)

    def test_digits_before_and_behind_the_point(self):
        for before in ("1", "12", "123", "1234"):
            for behind in ("1", "12", "123", "1234"):
                text = self.FRONT + before + "." + behind + "\n"
                self.assertEqual(printed(text), text)

    def test_all_else_as_it_stands(self):
        text = marks("b", "A00", "Q0") + "over A00 b 1\n" + marks("C") + "over C Q0 -2\nover b A00 -1\n"
        self.assertEqual(printed(text), text)
        self.assertEqual(printed(""), "")

    def test_a_height_is_told_in_tenths_of_a_millimetre(self):
        heights = {"1": 10000, "0.1": 1000, "0.01": 100, "0.001": 10, "0.0001": 1, "-0.0500": -500, "12.034": 120340}
        for height, told in heights.items():
            text = marks("A", "B") + "over A B 0\nover A B " + height + "\n"
            self.assertEqual(ask(book(text))[0][-1], told, height)


class OneBookAfterAnother(unittest.TestCase):
    def test_a_refused_book_leaves_the_one_before(self):
        before = ask(book(SMALL), *ASKED)[1:]
        for text in BAD:
            found = ask(book(SMALL), *(ASKED + [book(text)] + ASKED))
            self.assertEqual(found[1 + len(ASKED)][0], -6)
            self.assertEqual(found[1:1 + len(ASKED)], before)
            self.assertEqual(found[2 + len(ASKED):], before)

    def test_a_right_book_takes_its_place(self):
        for first, second in ((SMALL, OTHER), (OTHER, SMALL), (SMALL, ""), ("", OTHER), (OTHER, marks("Q"))):
            found = ask(book(first), *(ASKED + [book(second)] + ASKED))
            self.assertEqual(found[:1 + len(ASKED)], ask(book(first), *ASKED))
            self.assertEqual(found[1 + len(ASKED):], ask(book(second), *ASKED))
            self.assertNotEqual(found[:1 + len(ASKED)], found[1 + len(ASKED):])

    def test_what_a_second_book_tells(self):
        asked = [SIZE, name(0), name(1), PRINTED, find("A"), find("Q"), over(0, 0), over(0, 1), way(0, 0), ends(0)]
        found = ask(book(SMALL), book(marks("Q")), *asked)
        expected = [[0, 1, 0, 1], [0, 1, 81], [-4], [0, 7] + list(b"mark Q\n")]
        self.assertEqual(found[2:], expected + [[-4], [0, 0], [1, 0], [-4], [1, 0], [0, 1, 0, 0]])

    def test_names_of_the_book_before_are_not_told(self):
        self.assertEqual(ask(book(SMALL), book(SMALL)), [[0], [0]])
        self.assertEqual(ask(book(SMALL), book("over A Bolt7 1\n"))[1], [-6, 3, 5])

    def test_asking_changes_nothing(self):
        for text in (SMALL, OTHER):
            found = ask(book(text), *(ASKED + ASKED[::-1] + ASKED))[1:]
            self.assertEqual(found[:len(ASKED)], found[-len(ASKED):])
            self.assertEqual(found[:len(ASKED)], found[len(ASKED):-len(ASKED)][::-1])


class HandedIn(unittest.TestCase):
    CALLS = sum([book(SMALL), book(SMALL + "over A Bolt7 1\n")] + ASKED + [book("?"), book(OTHER)] + ASKED, [])

    def test_the_list_is_as_it_was(self):
        calls = list(self.CALLS)
        answers(calls)
        self.assertEqual(calls, self.CALLS)

    def test_the_list_is_not_changed_for_a_while_either(self):
        class Still(list):
            def refuse(self, *given):
                raise AssertionError("changed")
            append = extend = insert = pop = remove = clear = sort = reverse = refuse
            __setitem__ = __delitem__ = __iadd__ = __imul__ = refuse
        self.assertEqual(answers(Still(self.CALLS)), answers(list(self.CALLS)))

    def test_nothing_is_kept_from_one_time_to_the_next(self):
        first = answers(self.CALLS)
        self.assertEqual(ask(SIZE), [[-3]])
        self.assertEqual(answers(self.CALLS), first)
        first.clear()
        self.assertNotEqual(answers(self.CALLS), [])

    def test_two_cases_do_not_touch_each_other(self):
        one, other = (sum([book(text)] + ASKED, []) for text in (SMALL, OTHER))
        told = answers(one), answers(other)
        for turn in range(2):
            self.assertEqual(answers(sum(ASKED, [])), [1, -3] * len(ASKED))
            self.assertEqual((answers(one), answers(other)), told)
        self.assertNotEqual(told[0], told[1])

    def test_400_calls_on_a_long_book(self):
        text = chain(many_names(1024), "1")
        found = ask(book(text), *([PRINTED] * 399))
        self.assertEqual(found[399], [0, len(text)] + list(text.encode()))


if __name__ == "__main__":
    unittest.main()
