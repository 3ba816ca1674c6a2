"""Kind 1 and the texts that are right by the grammar."""

import unittest

from helper import SIZE, ask, book, book_answer, grammar_fault, marks

RIGHT = "mark Zero\nmark b2\nover Zero b2 -12.0340\nmark C\nover b2 C 7\n"


class RightTexts(unittest.TestCase):
    def test_no_bytes_are_right(self):
        self.assertEqual(ask(book(""), SIZE), [[0], [0, 0, 0, 0]])

    def test_marks_alone(self):
        self.assertEqual(ask(book(marks("A", "z", "Q9")), SIZE), [[0], [0, 3, 0, 3]])

    def test_both_lines(self):
        self.assertEqual(ask(book(RIGHT), SIZE), [[0], [0, 3, 2, 1]])

    def test_case_and_digits_tell_names_apart(self):
        self.assertEqual(ask(book(marks("A", "a", "A1", "A01", "AA")), SIZE), [[0], [0, 5, 0, 5]])


class GrammarFaults(unittest.TestCase):
    def fault(self, text, place):
        self.assertEqual(book_answer(text), [-6, 1, place], repr(text))

    def test_cut_off_at_each_place(self):
        ends = [0] + [at + 1 for at, sign in enumerate(RIGHT) if sign == "\n"]
        for length in range(len(RIGHT) + 1):
            expected = [0] if length in ends else [-6, 1, length]
            self.assertEqual(book_answer(RIGHT[:length]), expected, length)

    def test_another_sign_at_each_place(self):
        for at in range(len(RIGHT)):
            for sign in "\x00\t\n\r -./09:@AZ[`az{\x7f\x8a\xb2\xffmo":
                text = RIGHT[:at] + sign + RIGHT[at + 1:]
                place = grammar_fault(text)
                if place is None:
                    self.assertNotEqual(book_answer(text)[:2], [-6, 1], repr(text))
                else:
                    self.fault(text, place)

    def test_each_byte_as_a_name(self):
        letters = "ABCDEFGHIJKLMNOPQRSTUVWXYZabcdefghijklmnopqrstuvwxyz"
        for byte in range(256):
            sign = bytes([byte]).decode("latin-1")
            alone = [0] if sign in letters else [-6, 1, 5]
            behind = [0] if sign in letters + "0123456789\n" else [-6, 1, 6]
            self.assertEqual(book_answer("mark " + sign + "\n"), alone, byte)
            text = "mark A\n" if sign == "\n" else "mark A" + sign + "\n"
            self.assertEqual(book_answer(text), behind, byte)

    def test_first_sign_of_a_line(self):
        self.fault("\n", 0)
        self.fault(" mark A\n", 0)
        self.fault("Mark A\n", 0)
        self.fault("mark A\n\n", 7)
        self.fault("mark A\nx", 7)

    def test_words_broken(self):
        self.fault("mork A\n", 1)
        self.fault("oark A\n", 1)
        self.fault("mark  A\n", 5)
        self.fault("mark\tA\n", 4)
        self.fault("mark A \n", 6)
        self.fault("mark A\r\n", 6)
        self.fault("mark A B\n", 6)

    def test_over_without_all_its_words(self):
        self.fault("over A\n", 6)
        self.fault("over A B\n", 8)
        self.fault("over A  B 1\n", 7)
        self.fault("over A B 1 \n", 10)
        self.fault("over A B 1 C\n", 10)
        self.fault("over A 1 B\n", 7)

    def test_name_begins_with_a_letter(self):
        self.fault("mark 1A\n", 5)
        self.fault("mark \n", 5)
        self.fault("over 1 B 1\n", 5)

    def test_names_of_16_and_17_signs(self):
        long = "A23456789012345z"
        self.assertEqual(len(long), 16)
        self.assertEqual(book_answer(marks(long, "B") + "over %s B 1\nover B %s -1\n" % (long, long)), [0])
        self.fault("mark " + long + "7\n", 5 + 16)
        self.fault("over " + long + "x B 1\n", 5 + 16)
        self.fault("over B " + long + "x 1\n", 7 + 16)
        self.fault("mark " + long, 5 + 16)


class Heights(unittest.TestCase):
    FRONT = marks("A", "B") + "over A B "

    def height_fault(self, height, place):
        self.assertEqual(book_answer(self.FRONT + height + "\n"), [-6, 1, len(self.FRONT) + place], height)

    def test_right_heights(self):
        digits = ("1", "12", "123", "1234", "0", "00", "0000", "9999")
        for sign in ("", "-"):
            for before in digits:
                self.assertEqual(book_answer(self.FRONT + sign + before + "\n"), [0])
                for behind in digits:
                    self.assertEqual(book_answer(self.FRONT + sign + before + "." + behind + "\n"), [0])
        for height in ("-0", "00.10", "-0.0500"):
            self.assertEqual(book_answer(self.FRONT + height + "\n"), [0])

    def test_five_digits(self):
        self.height_fault("12345", 4)
        self.height_fault("00000", 4)
        self.height_fault("-12345", 5)
        self.height_fault("1.12345", 6)
        self.height_fault("1234.00000", 9)
        self.height_fault("-1.00000", 7)

    def test_digits_missing(self):
        self.height_fault("", 0)
        self.height_fault("-", 1)
        self.height_fault(".5", 0)
        self.height_fault("-.5", 1)
        self.height_fault("5.", 2)
        self.height_fault("1234.", 5)

    def test_other_signs(self):
        self.height_fault("+1", 0)
        self.height_fault("--1", 1)
        self.height_fault("1-", 1)
        self.height_fault("1.-1", 2)
        self.height_fault("1.1.1", 3)
        self.height_fault("1,1", 1)
        self.height_fault("1e1", 1)
        self.height_fault("A", 0)


class GrammarComesFirst(unittest.TestCase):
    def test_behind_faults_of_other_kinds(self):
        others = (
            marks("A", "A"),
            "over A B 1\n",
            marks("A") + "over A A 1\n",
            marks("A", "B") + "over A B 1\nover A B 2\n",
        )
        for text in others:
            self.assertNotEqual(book_answer(text), [0])
            self.assertEqual(book_answer(text + "mark"), [-6, 1, len(text) + 4])
            self.assertEqual(book_answer(text + "mark A\n?"), [-6, 1, len(text) + 7])


if __name__ == "__main__":
    unittest.main()
