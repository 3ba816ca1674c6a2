"""The calls find, over, way and ends."""

import sys
import unittest

from helper import ask, ask_right, chain, ends, find, many_names, marks, name, over, way

GREATEST = 4294967295
# two groups and a mark alone; heights: A 0, B 1.5, C 1.25, D 3.25 and P 0, Q -7
BOOK = marks("A", "B", "C", "D", "P", "Q", "Alone")
BOOK += "over A B 1.5\nover P Q -7\nover C B 0.25\nover C D 2\n"
LONG = "A23456789012345z"


class Find(unittest.TestCase):
    TEXT = marks("Zero", "A", "b2", "B2", LONG) + "over Zero A 1\n" + marks("Last")

    def found(self, *rows):
        return ask_right(self.TEXT, *[find(row) for row in rows])

    def test_each_name(self):
        self.assertEqual(self.found("Zero", "A", "b2", "B2", LONG, "Last"), [[0, mark] for mark in range(6)])

    def test_a_name_that_no_mark_has(self):
        self.assertEqual(self.found("Bolt", "zero", "a", "b3", "Z"), [[-4]] * 5)

    def test_no_bytes(self):
        self.assertEqual(self.found(""), [[-4]])

    def test_bytes_that_are_no_name(self):
        rows = ("2", " A", "A ", "A\n", "mark A", "Zero A", "-1", "\x00", "A\x00", "\xff", "\xc1", "A" * 1000, [0] * 1000)
        self.assertEqual(self.found(*rows), [[-4]] * len(rows))

    def test_a_names_beginning(self):
        self.assertEqual(self.found("Zer", "b", "B", LONG[:15], "Las"), [[-4]] * 5)

    def test_a_name_with_a_sign_more(self):
        self.assertEqual(self.found("Zeroo", "A0", "AA", "b22", LONG + "7", "Lastt"), [[-4]] * 6)

    def test_an_empty_book_has_no_names(self):
        self.assertEqual(ask_right("", find(""), find("A")), [[-4], [-4]])

    def test_find_and_name_of_1024_marks(self):
        names = many_names(1024)
        for part in (names[:190], names[-190:]):
            calls = [call for each in part for call in (find(each), name(names.index(each)))]
            found = ask_right(marks(*names), *calls)
            self.assertEqual(found[0::2], [[0, names.index(each)] for each in part])
            self.assertEqual(found[1::2], [[0, 2] + list(each.encode()) for each in part])


class Over(unittest.TestCase):
    def test_itself(self):
        self.assertEqual(ask_right(BOOK, *[over(mark, mark) for mark in range(7)]), [[1, 0]] * 7)

    def test_one_group(self):
        heights = [0, 15000, 12500, 32500]
        for lower in range(4):
            found = ask_right(BOOK, *[over(lower, upper) for upper in range(4)])
            self.assertEqual(found, [[1, height - heights[lower]] for height in heights])

    def test_one_line_and_against_it(self):
        self.assertEqual(ask_right(BOOK, over(4, 5), over(5, 4)), [[1, -70000], [1, 70000]])

    def test_two_groups(self):
        calls = [over(0, 4), over(4, 0), over(3, 5), over(6, 0), over(0, 6), over(6, 5)]
        self.assertEqual(ask_right(BOOK, *calls), [[0]] * 6)

    def test_the_same_level_in_one_group(self):
        text = marks("A", "B", "C") + "over A B 2\nover C B 2.0\n"
        self.assertEqual(ask_right(text, over(0, 2), over(2, 0)), [[1, 0], [1, 0]])

    def test_groups_brought_together(self):
        front = marks("A", "B", "C", "D", "E", "F") + "over A B 1\nover D C 1\nover E F 7\n"
        self.assertEqual(ask_right(front, over(0, 2), over(1, 5)), [[0], [0]])
        text = front + "over B D 10\nover F A 100\n"
        calls = [over(4, 2), over(2, 4), over(0, 3), over(5, 1)]
        self.assertEqual(ask_right(text, *calls), [[1, 1190000], [1, -1190000], [1, 110000], [1, 1010000]])

    def test_a_greater_group_hung_under_a_smaller_one(self):
        text = marks("X", "A", "B", "C") + "over A B 1\nover B C 1\n"
        self.assertEqual(ask_right(text + "over X C 5\n", over(0, 1), over(1, 0)), [[1, 30000], [1, -30000]])
        self.assertEqual(ask_right(text + "over C X 5\n", over(0, 1), over(1, 0)), [[1, -70000], [1, 70000]])

    def test_greater_than_any_line(self):
        text = chain(("A", "B", "C"), "9999.9999")
        self.assertEqual(ask_right(text, over(0, 2), over(2, 0)), [[1, 199999998], [1, -199999998]])
        text = chain(many_names(1024), "9999.9999")
        self.assertEqual(ask_right(text, over(0, 1023), over(1023, 0)), [[1, 102299998977], [1, -102299998977]])


class Way(unittest.TestCase):
    def test_itself(self):
        self.assertEqual(ask_right(BOOK, *[way(mark, mark) for mark in range(7)]), [[1, 0]] * 7)

    def test_one_group(self):
        calls = [way(0, 1), way(0, 2), way(0, 3), way(1, 3), way(2, 3)]
        self.assertEqual(ask_right(BOOK, *calls), [[1, 1, 0], [1, 2, 0, 2], [1, 3, 0, 2, 3], [1, 2, 2, 3], [1, 1, 3]])

    def test_the_other_way_round(self):
        calls = [way(1, 0), way(2, 0), way(3, 0), way(3, 1), way(3, 2)]
        self.assertEqual(ask_right(BOOK, *calls), [[1, 1, 0], [1, 2, 2, 0], [1, 3, 3, 2, 0], [1, 2, 3, 2], [1, 1, 3]])

    def test_two_groups(self):
        calls = [way(0, 4), way(4, 0), way(3, 5), way(6, 0), way(0, 6), way(6, 5)]
        self.assertEqual(ask_right(BOOK, *calls), [[0]] * 6)

    def test_a_line_that_agrees_is_not_gone(self):
        text = chain(("A", "B", "C", "D"), "1") + "over A D 3\nover D B -2\n"
        calls = [way(0, 3), way(3, 0), way(1, 3), way(3, 1)]
        found = ask_right(text, *calls)
        self.assertEqual(found, [[1, 3, 0, 1, 2], [1, 3, 2, 1, 0], [1, 2, 1, 2], [1, 2, 2, 1]])

    def test_of_two_lines_between_two_marks_the_first(self):
        text = marks("A", "B") + "over B A -1\nover A B 1\nover B A -1.0\n"
        self.assertEqual(ask_right(text, way(0, 1), way(1, 0)), [[1, 1, 0], [1, 1, 0]])

    def test_lines_that_agreed_and_other_groups_lines_count_for_numbers(self):
        text = marks("P", "Q", "A", "B", "C") + "over P Q 5\nover Q P -5\nover C B 1\nover A C 1\nover A B 2\n"
        self.assertEqual(ask_right(text, way(2, 3), way(3, 2)), [[1, 2, 3, 2], [1, 2, 2, 3]])

    def test_past_branches_that_lead_elsewhere(self):
        text = marks("Hub", "A", "B", "C", "D") + "".join("over Hub %s 1\n" % each for each in "ABCD")
        text += marks("E") + "over C E 1\n"
        calls = [way(1, 4), way(5, 2), way(0, 5)]
        self.assertEqual(ask_right(text, *calls), [[1, 2, 0, 3], [1, 3, 4, 2, 1], [1, 2, 2, 4]])


class Ends(unittest.TestCase):
    def test_one_group(self):
        self.assertEqual(ask_right(BOOK, *[ends(mark) for mark in range(4)]), [[0, 4, 0, 3]] * 4)

    def test_below_the_first_mark(self):
        self.assertEqual(ask_right(BOOK, ends(4), ends(5)), [[0, 2, 5, 4]] * 2)

    def test_a_mark_alone(self):
        self.assertEqual(ask_right(BOOK, ends(6)), [[0, 1, 6, 6]])
        self.assertEqual(ask_right(marks("A"), ends(0)), [[0, 1, 0, 0]])

    def test_all_at_one_level(self):
        text = marks("X", "A", "B", "C") + "over C B 0\nover B A -0\n"
        self.assertEqual(ask_right(text, *[ends(mark) for mark in range(4)]), [[0, 1, 0, 0]] + [[0, 3, 1, 1]] * 3)

    def test_several_lowest_and_several_highest(self):
        # in whichever order the lines bring them together, the least number is told
        names = ("Mid", "Low1", "High1", "Low2", "High2", "Low3", "High3")
        lines = ["over Mid %s %s\n" % (each, "-2.5" if each.startswith("Low") else "2.5") for each in names[1:]]
        for turn in range(len(lines)):
            turned = lines[turn:] + lines[:turn]
            for order in (turned, turned[::-1]):
                found = ask_right(marks(*names) + "".join(order), *[ends(mark) for mark in range(7)])
                self.assertEqual(found, [[0, 7, 1, 2]] * 7)

    def test_several_in_groups_brought_together(self):
        text = marks("A", "B", "C", "D", "E") + "over E D 1\nover D C -1\nover A B 1\n"
        self.assertEqual(ask_right(text, ends(0), ends(4)), [[0, 2, 0, 1], [0, 3, 2, 3]])
        found = ask_right(text + "over B D 0\n", *[ends(mark) for mark in range(5)])
        self.assertEqual(found, [[0, 5, 0, 1]] * 5)

    def test_a_line_that_agrees_counts_no_mark_twice(self):
        text = chain(("A", "B", "C"), "-1") + "over A C -2\nover B A 1\n"
        self.assertEqual(ask_right(text, ends(1)), [[0, 3, 2, 0]])


class NoSuchMark(unittest.TestCase):
    def test_two_marks(self):
        for call in (over, way):
            for text, count in ((BOOK, 7), (marks("A"), 1), ("", 0)):
                inside = range(count)
                pairs = [(mark, out) for mark in inside for out in (count, count + 1, GREATEST)]
                pairs += [(out, mark) for mark, out in pairs]
                pairs += [(count, count), (count, GREATEST), (GREATEST, count), (GREATEST, GREATEST)]
                found = ask_right(text, *[call(one, other) for one, other in pairs])
                self.assertEqual(found, [[-4]] * len(pairs))
                self.assertNotIn([-4], ask_right(text, *[call(one, other) for one in inside for other in inside]))

    def test_one_mark(self):
        for text, count in ((BOOK, 7), (marks("A"), 1), ("", 0)):
            self.assertEqual(ask_right(text, ends(count), ends(count + 1), ends(GREATEST)), [[-4]] * 3)
            self.assertNotIn([-4], ask_right(text, *[ends(mark) for mark in range(count)]))

    def test_just_outside_1024_marks(self):
        text = marks(*many_names(1024))
        calls = [over(1023, 1024), over(1024, 1023), way(1023, 1024), way(1024, 1023), ends(1024)]
        self.assertEqual(ask_right(text, *calls), [[-4]] * 5)
        self.assertEqual(ask_right(text, over(1023, 1023), way(1023, 0), ends(1023)), [[1, 0], [0], [0, 1, 1023, 1023]])


class LongChains(unittest.TestCase):
    NAMES = many_names(1024)

    def test_from_end_to_end_and_back(self):
        there = list(range(1023))
        found = ask_right(chain(self.NAMES, "1"), way(0, 1023), way(1023, 0), over(0, 1023), over(1023, 0), ends(500))
        self.assertEqual(found[0], [1, 1023] + there)
        self.assertEqual(found[1], [1, 1023] + there[::-1])
        self.assertEqual(found[2:], [[1, 10230000], [1, -10230000], [0, 1024, 0, 1023]])

    def test_told_from_its_far_end(self):
        lines = chain(self.NAMES, "-1").splitlines(keepends=True)
        text = "".join(lines[:1024] + lines[:1023:-1])
        found = ask_right(text, way(0, 1023), way(1023, 0), over(0, 1023), ends(0))
        self.assertEqual(found[0], [1, 1023] + list(range(1022, -1, -1)))
        self.assertEqual(found[1], [1, 1023] + list(range(1023)))
        self.assertEqual(found[2:], [[1, -10230000], [0, 1024, 1023, 0]])

    def test_no_deep_calls(self):
        before = sys.getrecursionlimit()
        sys.setrecursionlimit(200)
        try:
            found = ask_right(chain(self.NAMES, "1"), way(0, 1023), ends(0), find("A" * 1000), over(1023, 0))
        finally:
            sys.setrecursionlimit(before)
        self.assertEqual([answer[:2] for answer in found], [[1, 1023], [0, 1024], [-4], [1, -10230000]])

    def test_400_calls(self):
        text = chain(self.NAMES, "1")
        asked = [call for turn in range(99) for call in (way(turn, 1023), over(1023, turn), ends(turn), find("AA"))]
        found = ask(*([ends(0)] * 3 + [[0, len(text)] + list(text.encode())] + asked))
        self.assertEqual(len(found), 400)
        self.assertEqual(found[:4], [[-3], [-3], [-3], [0]])
        for turn in range(99):
            expected = [[1, 1023 - turn] + list(range(turn, 1023)), [1, (turn - 1023) * 10000], [0, 1024, 0, 1023], [0, 0]]
            self.assertEqual(found[4 + turn * 4:8 + turn * 4], expected)


if __name__ == "__main__":
    unittest.main()
