"""Promise 1: begin, and what the document says of texts."""

import unittest

from lastingshares.groups import answers
from tests.helper import begin

GOOD = "0 5 1"

# Every way in which a line can be none of those described.
WRONG_LINES = (
    "",
    " ",
    "  ",
    "0",
    "0 5",
    "0 5 ",
    " 5 1",
    "0  1",
    "0 5 1 1",
    "0 5 1 0",
    "0  5 1",
    "0 5  1",
    " 0 5 1",
    "0 5 1 ",
    "00 5 1",
    "01 5 1",
    "0 05 1",
    "0 00 1",
    "0 0000000 1",
    "0 5 01",
    "0 5 00",
    "+0 5 1",
    "0 +5 1",
    "0 5 +1",
    "-0 5 1",
    "0 -5 1",
    "0 -0 1",
    "0 5 -1",
    "0 5 -0",
    "0\t5 1",
    "0 5\t1",
    "0 5 1\r",
    "0,5,1",
    "0 5.0 1",
    "0 5 1.",
    "0 5_0 1",
    "0 1e3 1",
    "0 / 1",
    "0 : 1",
    "0 5 :",
    "0 5 /",
    "a 5 1",
    "0 x 1",
    "0 5 z",
    "0 5 1\x00",
    "0 \xb2 1",
    "0\xa05 1",
    "\xff 5 1",
    "2 5 1",
    "10 5 1",
    "0 5 2",
    "0 5 10",
    "0 1000001 1",
    "0 2000000 1",
    "0 10000000 1",
    "0 4294967297 1",
    "0 " + "9" * 4000 + " 1",
    "1" * 4000 + " 5 1",
)

RIGHT_LINES = (
    "0 0 0",
    "0 0 1",
    "1 0 0",
    "1 0 1",
    "0 10 1",
    "1 999999 0",
    "0 1000000 0",
    "1 1000000 1",
)


def begun(text):
    return answers(begin(text))


class Accepted(unittest.TestCase):
    def test_empty_text(self):
        self.assertEqual(begun(""), [1, 0])

    def test_one_line(self):
        for line in RIGHT_LINES:
            with self.subTest(line=line):
                self.assertEqual(begun(line), [1, 0])
                self.assertEqual(begun(line + "\n"), [1, 0])

    def test_twenty_lines(self):
        text = "\n".join(["1 1000000 1"] * 20)
        self.assertEqual(begun(text), [1, 0])
        self.assertEqual(begun(text + "\n"), [1, 0])


class WrongLines(unittest.TestCase):
    def test_alone_with_a_newline_behind(self):
        for line in WRONG_LINES:
            with self.subTest(line=line):
                self.assertEqual(begun(line + "\n"), [1, -101])

    def test_alone_without_a_newline(self):
        for line in WRONG_LINES:
            if line != "":
                with self.subTest(line=line):
                    self.assertEqual(begun(line), [1, -101])

    def test_first_middle_and_last(self):
        for line in WRONG_LINES:
            for place in (1, 3, 5):
                lines = [GOOD] * 5
                lines[place - 1] = line
                with self.subTest(line=line, place=place):
                    self.assertEqual(begun("\n".join(lines) + "\n"), [1, -100 - place])

    def test_the_last_of_twenty(self):
        for line in ("2 5 1", "", "0 5"):
            text = "\n".join([GOOD] * 19 + [line]) + "\n"
            self.assertEqual(begun(text), [1, -120])

    def test_the_first_of_several(self):
        self.assertEqual(begun("0 5 1\n\n2 5 1\n0 5"), [1, -102])
        self.assertEqual(begun("0 5 1\n1 6 0\n2 5 1\n\n"), [1, -103])

    def test_more_than_one_newline_at_the_end(self):
        self.assertEqual(begun("\n"), [1, -101])
        self.assertEqual(begun("\n\n"), [1, -101])
        self.assertEqual(begun("0 5 1\n\n"), [1, -102])
        self.assertEqual(begun("0 5 1\n\n\n"), [1, -102])

    def test_a_newline_ahead(self):
        self.assertEqual(begun("\n0 5 1"), [1, -101])

    def test_every_other_byte_in_the_place_of_a_blank_or_a_digit(self):
        for byte in range(256):
            if byte in (10, 32) or 48 <= byte <= 57:
                continue
            with self.subTest(byte=byte):
                self.assertEqual(begun([48, byte, 53, 32, 49]), [1, -101])
                self.assertEqual(begun([byte, 32, 53, 32, 49]), [1, -101])
                self.assertEqual(begun([48, 32, 53, byte, 32, 49]), [1, -101])
                self.assertEqual(begun([48, 32, 53, 32, byte]), [1, -101])


class TooManyLines(unittest.TestCase):
    def test_the_twenty_first(self):
        text = "\n".join([GOOD] * 21)
        self.assertEqual(begun(text), [1, -121])
        self.assertEqual(begun(text + "\n"), [1, -121])

    def test_the_twenty_first_is_wrong_too(self):
        for line in ("\n", "x", "0 5 2\n"):
            self.assertEqual(begun("\n".join([GOOD] * 20 + [line])), [1, -121])

    def test_far_more_than_twenty(self):
        self.assertEqual(begun("\n".join([GOOD] * 600)), [1, -121])

    def test_a_wrong_line_ahead_of_the_twenty_first(self):
        lines = [GOOD] * 25
        lines[6] = "0 5 3"
        self.assertEqual(begun("\n".join(lines)), [1, -107])

    def test_a_wrong_line_behind_the_twenty_first(self):
        lines = [GOOD] * 25
        lines[22] = "0 5 3"
        self.assertEqual(begun("\n".join(lines)), [1, -121])


class LongTexts(unittest.TestCase):
    def test_4096_bytes(self):
        twenty = "1 1000000 1\n" * 20
        texts = (
            ("\n" * 4096, -101),
            ("7" * 4096, -101),
            (" " * 4096, -101),
            (twenty + "0" * (4096 - len(twenty)), -121),
            ("0 5 1\n0 5 1\n" + "0 5 1" + " " * 4079, -103),
            (("0 5 1\n" * 700)[:4096], -121),
        )
        for text, answer in texts:
            self.assertEqual(len(text), 4096)
            self.assertEqual(begun(text), [1, answer])

    def test_all_bytes(self):
        self.assertEqual(begun(list(range(256)) * 16), [1, -101])

    def test_a_count_out_of_range(self):
        self.assertEqual(begun("7" * 4097), [1, -2])
        self.assertEqual(begun("0 5 1\n" * 700), [1, -2])
        self.assertEqual(answers([0, 4097]), [1, -2])
        self.assertEqual(answers([0, 2147483647]), [1, -2])
        self.assertEqual(answers([0, -1]), [1, -2])
        self.assertEqual(answers([0, -2147483648]), [1, -2])


if __name__ == "__main__":
    unittest.main()
