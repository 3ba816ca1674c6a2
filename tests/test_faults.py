"""Kinds 2 to 6: which is first, at which place, and the ring."""

import unittest

from helper import SIZE, ask, book, book_answer, many_names, marks


class FaultCase(unittest.TestCase):
    def fault(self, front, line, kind, offset):
        """The fault stands in the line behind a right front, so many signs from the line's beginning."""
        self.assertEqual(book_answer(front), [0])
        self.assertEqual(book_answer(front + line), [-6, kind, len(front) + offset])


class Names(FaultCase):
    def test_kind_2_a_name_again(self):
        self.fault(marks("A", "B"), "mark A\n", 2, 5)
        self.fault(marks("A", "B"), "mark B\n", 2, 5)
        self.fault(marks("A", "B") + "over A B 1\n", "mark B\nmark C\n", 2, 5)

    def test_kind_3_a_name_untold(self):
        self.fault("", "over A B 1\n", 3, 5)
        self.fault(marks("A", "Bb"), "over C A 1\n", 3, 5)
        self.fault(marks("A", "Bb"), "over A C 1\n", 3, 7)
        self.fault(marks("A", "Bb"), "over Bb C 1\n", 3, 8)
        self.fault(marks("A", "Bb"), "over a Bb 1\n", 3, 5)
        self.fault(marks("A", "Bb"), "over A B 1\n", 3, 7)

    def test_kind_3_a_name_told_behind_it(self):
        self.fault(marks("A"), "over A B 1\nmark B\n", 3, 7)

    def test_kind_3_comes_before_kind_5(self):
        self.fault(marks("A"), "over C C 1\n", 3, 5)

    def test_kind_5_the_same_names(self):
        self.fault(marks("A", "Bb"), "over A A 1\n", 5, 7)
        self.fault(marks("A", "Bb"), "over Bb Bb 1\n", 5, 8)
        self.fault(marks("A", "Bb"), "over A A 0\n", 5, 7)


class ManyMarks(FaultCase):
    def test_1024_marks_are_right(self):
        self.assertEqual(ask(book(marks(*many_names(1024))), SIZE), [[0], [0, 1024, 0, 1024]])

    def test_kind_4_the_1025th_mark(self):
        front = marks(*many_names(1024))
        self.fault(front, "mark Q\n", 4, 5)
        self.fault(front, "mark Q\nmark R\n", 4, 5)
        self.fault(front + "over AA AB 1\n", "mark Q\n", 4, 5)

    def test_kind_2_comes_before_kind_4_at_one_place(self):
        self.fault(marks(*many_names(1024)), "mark AA\n", 2, 5)

    def test_over_lines_are_no_marks(self):
        names = many_names(1023)
        self.assertEqual(book_answer(marks(*names) + "over AA AB 1\nover AB AC 1\n" + marks("Q")), [0])


class FirstByPlace(FaultCase):
    def test_two_faults(self):
        kinds = {
            2: ("mark A\n", 5),
            3: ("over A X 1\n", 7),
            5: ("over B B 1\n", 7),
            6: ("over A B 2\n", 9),
        }
        front = marks("A", "B") + "over A B 1\n"
        for kind, (line, offset) in kinds.items():
            for other, place in kinds.values():
                answer = book_answer(front + line + other)
                self.assertEqual(answer[:3], [-6, kind, len(front) + offset])

    def test_kind_4_and_another(self):
        front = marks(*many_names(1024))
        self.fault(front, "mark Q\nover X X 1\n", 4, 5)
        self.fault(front, "over AA AA 1\nmark Q\n", 5, 8)

    def test_two_in_one_line(self):
        self.fault("", "over A A 1\n", 3, 5)
        self.fault(marks("B"), "over A B 1\n", 3, 5)

    def test_a_fault_told_alone(self):
        for text in ("mark", marks("A", "A"), "over A B 1\n", marks("A") + "over A A 1\n"):
            self.assertEqual(len(book_answer(text)), 3)


class Rings(unittest.TestCase):
    def ring(self, front, line, ring, gap):
        """The line's height disagrees with the front, which is right."""
        self.assertEqual(book_answer(front), [0])
        place = len(front) + line.rindex(" ") + 1
        expected = [-6, 6, place, len(ring)] + ring + [gap]
        self.assertEqual(book_answer(front + line), expected)

    def test_agrees_whichever_way_it_is_told(self):
        front = marks("A", "B", "C") + "over A B 1.5\nover C B 0.25\n"
        for line in ("over A B 1.5", "over B A -1.5", "over A C 1.25", "over C A -1.2500", "over B C -00.25"):
            self.assertEqual(ask(book(front + line + "\n"), SIZE), [[0], [0, 3, 3, 1]], line)

    def test_two_lines_between_two_marks(self):
        front = marks("A", "B") + "over A B 1\n"
        self.ring(front, "over A B 2\n", [1, 0], 10000)
        self.ring(front, "over A B 0.9999\n", [1, 0], -1)
        self.ring(front, "over B A 1\n", [1, 0], 20000)
        self.ring(front, "over B A -1.0001\n", [1, 0], -1)
        self.ring(front, "over A B -0\n", [1, 0], -10000)

    def test_place_is_at_the_minus(self):
        front = marks("A", "B") + "over A B 1\n"
        self.assertEqual(book_answer(front + "over A B -1\n"), [-6, 6, len(front) + 9, 2, 1, 0, -20000])

    def test_through_several_lines(self):
        front = marks("A", "B", "C", "D") + "over A B 1\nover B C 2\nover C D 3\n"
        self.ring(front, "over A D 6.0001\n", [3, 2, 1, 0], 1)
        self.ring(front, "over D A -6.0001\n", [3, 0, 1, 2], -1)
        self.ring(front, "over A C 2\n", [3, 1, 0], -10000)
        self.ring(front, "over D B 0\n", [3, 1, 2], 50000)

    def test_against_the_lines_direction(self):
        front = marks("A", "B", "C", "D") + "over B A 1\nover B C 2\nover D C 0.5\n"
        self.ring(front, "over A D 0.6\n", [3, 2, 1, 0], 1000)
        self.ring(front, "over D A 0\n", [3, 0, 1, 2], 5000)

    def test_only_lines_that_joined_are_in_the_way(self):
        front = marks("A", "B", "C") + "over A B 1\nover A B 1\nover B C 1\nover A C 2\nover B A -1\n"
        self.ring(front, "over C A 0\n", [5, 0, 2], 20000)
        self.ring(front, "over A C 0\n", [5, 2, 0], -20000)

    def test_lines_in_another_group_count_for_numbers(self):
        front = marks("P", "Q", "A", "B") + "over P Q 5\nover P Q 5\nover A B 1\n"
        self.ring(front, "over B A 0\n", [3, 2], 10000)

    def test_groups_brought_together(self):
        front = marks("A", "B", "C", "D", "E", "F")
        front += "over A B 1\nover D C 1\nover E F 7\nover B D 10\nover F A 100\n"
        self.assertEqual(ask(book(front), SIZE), [[0], [0, 6, 5, 1]])
        self.assertEqual(book_answer(front + "over E C 119\n"), [0])
        self.ring(front, "over E C 0\n", [5, 1, 3, 0, 4, 2], -1190000)
        self.ring(front, "over C E 0\n", [5, 2, 4, 0, 3, 1], 1190000)

    def test_a_disagreeing_line_is_not_kept(self):
        front = marks("A", "B") + "over A B 1\n"
        answers = ask(book(front + "over A B 2\n"), SIZE, book(front), SIZE)
        self.assertEqual(answers[1:], [[-3], [0], [0, 2, 1, 1]])

    def test_heights_greater_than_any_line(self):
        names = many_names(200)
        front = marks(*names) + "".join("over %s %s 9999.9999\n" % pair for pair in zip(names, names[1:]))
        ring = [199] + list(range(198, -1, -1))
        self.ring(front, "over AA %s 0\n" % names[-1], ring, -199 * 99999999)

    def test_the_longest_ring(self):
        names = many_names(1024)
        front = marks(*names) + "".join("over %s %s 1\n" % pair for pair in zip(names, names[1:]))
        ring = [1023] + list(range(1023))
        self.ring(front, "over %s AA 0\n" % names[-1], ring, 1023 * 10000)


if __name__ == "__main__":
    unittest.main()
