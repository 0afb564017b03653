"""The call read: a table's text and its fault."""

import unittest

from calling import RUN_TEXT, TOO_LONG, WRITE, fault, octets, read, sounds, spell, text_told, told


def many_lines(count):
    """As many right lines, all with other letters."""
    return "".join([chr(0x21 + number // 8) + chr(0x21 + number % 8) + " x\n" for number in range(count)])


class Right(unittest.TestCase):
    def right(self, text, count):
        self.assertEqual(told(read(text)), [[count]])

    def test_the_empty_text(self):
        self.assertEqual(told(read(RUN_TEXT), read(""), WRITE, spell("na")), [[7], [0], [0], sounds("na")])

    def test_one_line(self):
        self.right("a b\n", 1)
        self.right("a b\nab c a\n", 2)

    def test_a_second_table_takes_the_place_of_the_first(self):
        self.assertEqual(told(read("a 1\nb 2\n"), read("b 3\nc 4\n"), spell("abc"), WRITE),
                         [[2], [2], sounds("a34"), text_told("b 3\nc 4\n")])

    def test_the_same_letters_in_two_texts(self):
        self.assertEqual(told(read("a 1\n"), read("a 2\n"), spell("a")), [[1], [1], sounds("2")])

    def test_the_most_of_each_part(self):
        self.right("abcdef wxyz abcde\n", 1)
        self.right("a b\n", 1)
        self.right("ab c d\n", 1)

    def test_the_same_letters_put_back_or_sounds_again(self):
        self.right("ab x a\ncd x a\n", 2)

    def test_letters_that_begin_other_letters(self):
        self.right("a x\naa x\naaa x\n", 3)

    def test_the_least_and_the_greatest_letters(self):
        self.right("! x\n~ x\n!~ x !\n~! x ~\n", 4)

    def test_a_letter_may_be_a_sound(self):
        self.assertEqual(told(read("a !~Az\n"), spell("a")), [[1], sounds("!~Az")])

    def test_sixty_four_lines(self):
        self.right(many_lines(64), 64)

    def test_sounds_at_the_edges(self):
        for number in (0x21, 0x7E, 0x80, 0x85, 0xA0, 0x7FF, 0x800, 0x2028, 0xD7FF, 0xE000, 0xFEFF, 0xFFFE, 0xFFFF,
                       0x10000, 0x10FFFF):
            with self.subTest(number=number):
                self.assertEqual(told(read("a " + chr(number) + "\n"), spell("a")), [[1], [1, number]])


class NoLine(unittest.TestCase):
    """Kind 1."""

    def wrong(self, text, line=0):
        with self.subTest(text=text):
            self.assertEqual(told(read(text)), [fault(line, 1)])

    def test_a_part_missing(self):
        self.wrong("a\n")
        self.wrong("abcdefg\n")

    def test_a_part_empty(self):
        for text in ("a \n", " a\n", " \n", "  \n", "a b \n", "a  b\n", " a b\n", "ab  a\n", "ab c  a\n", " a b c\n"):
            self.wrong(text)

    def test_a_part_too_many(self):
        for text in ("abc d a b\n", "abc d a \n", "abc d a b c\n", "a b  \n"):
            self.wrong(text)

    def test_an_empty_line(self):
        self.wrong("\n")
        self.wrong("\n\n")
        self.wrong("a b\n\n", 1)
        self.wrong("\na b\n", 0)
        self.wrong("a b\n\nb c\n", 1)

    def test_no_end_behind_the_last_line(self):
        self.wrong("a b")
        self.wrong("a")
        self.wrong("a b\nb c", 1)
        self.wrong("a b\n ", 1)
        self.wrong(many_lines(64) + "x", 64)
        self.wrong(many_lines(64) + "x y", 64)

    def test_other_ends_part_no_lines(self):
        self.wrong("a b\r\n")
        self.wrong("a b\rc d\n")
        self.assertEqual(told(read("a b\u0085\n"), read("a b\u2028\n")), [[1], [1]])

    def test_signs_that_may_not_stand_in_any_part(self):
        for number in [sign for sign in range(0x20) if sign != 0x0A] + [0x7F]:
            sign = chr(number)
            for text in (sign + " b\n", "a" + sign + " b\n", "a " + sign + "\n", "a b" + sign + "\n",
                         "a " + sign + "b\n", "abc b " + sign + "\n", "abc b c" + sign + "\n", "abc b " + sign + "c\n"):
                self.wrong(text)

    def test_characters_that_are_no_letters(self):
        for number in (0x80, 0xA0, 0xE9, 0x121, 0x3B1, 0x800, 0xFEFF, 0xFFFF, 0x10061, 0x10FFFF):
            sign = chr(number)
            for text in (sign + " b\n", "a" + sign + " b\n", "abc b " + sign + "\n", "abc b c" + sign + "\n"):
                self.wrong(text)

    def test_bytes_that_are_no_utf8(self):
        wrong_bytes = {
            "a following byte alone": [0x80],
            "a last following byte alone": [0xBF],
            "two following bytes": [0x80, 0x80],
            "overlong, of two": [0xC0, 0x80],
            "overlong, of two, the greatest": [0xC1, 0xBF],
            "overlong letter": [0xC1, 0xA1],
            "overlong, of three": [0xE0, 0x80, 0x80],
            "overlong, of three, the greatest": [0xE0, 0x9F, 0xBF],
            "overlong, of four": [0xF0, 0x80, 0x80, 0x80],
            "overlong, of four, the greatest": [0xF0, 0x8F, 0xBF, 0xBF],
            "the first surrogate": [0xED, 0xA0, 0x80],
            "the last surrogate": [0xED, 0xBF, 0xBF],
            "two surrogates": [0xED, 0xA0, 0x80, 0xED, 0xB0, 0x80],
            "the first above all": [0xF4, 0x90, 0x80, 0x80],
            "the last of four": [0xF7, 0xBF, 0xBF, 0xBF],
            "of five": [0xF8, 0x88, 0x80, 0x80, 0x80],
            "of six": [0xFC, 0x84, 0x80, 0x80, 0x80, 0x80],
            "never": [0xFE],
            "never either": [0xFF],
            "cut, of two": [0xCE],
            "cut, of three": [0xE2],
            "cut, of three, one left": [0xE2, 0x82],
            "cut, of four": [0xF0, 0x9F],
            "cut, of four, one left": [0xF0, 0x9F, 0x98],
            "cut by a letter": [0xCE, 0x61],
            "cut by another": [0xE2, 0x82, 0xCE, 0xB1],
            "one following too many": [0xCE, 0xB1, 0xB1],
        }
        for name, row in wrong_bytes.items():
            with self.subTest(name=name):
                self.wrong([0x61, 0x20] + row + [0x0A])
                self.wrong([0x61, 0x20, 0x62] + row + [0x0A])
                self.wrong(row + [0x20, 0x61, 0x0A])
                self.wrong([0x61, 0x62, 0x20, 0x61, 0x20] + row + [0x0A])
                self.wrong(octets("a b\n") + [0x62, 0x20] + row + [0x0A] + octets("c d\n"), 1)
                self.wrong([0x61, 0x20] + row)

    def test_a_form_cut_by_the_line_s_end(self):
        self.wrong([0x61, 0x20, 0xCE, 0x0A, 0xB1, 0x0A])

    def test_a_form_cut_by_a_blank(self):
        self.wrong([0x61, 0x62, 0x20, 0xCE, 0x20, 0xB1, 0x0A])


class Utf8(unittest.TestCase):
    """Against Python's own strict decoder."""

    def check(self, row):
        try:
            signs = bytes(row).decode("utf-8")
        except UnicodeDecodeError:
            signs = ""
        right = 1 <= len(signs) <= 4 and all(ord(sign) > 0x20 and ord(sign) != 0x7F for sign in signs)
        text = [0x61, 0x20] + row + [0x0A]
        if right:
            wanted = [[1], sounds(signs), [len(text)] + text]
        elif signs and len(signs) > 4 and " " not in signs:
            wanted = [fault(0, 2), sounds("a"), [0]]
        else:
            wanted = [fault(0, 1), sounds("a"), [0]]
        given = told(read(text), spell("a"), WRITE)
        if given != wanted:
            self.fail(f"{row}: {given}, not {wanted}")

    def test_one_and_two_bytes(self):
        for first in range(256):
            if first not in (0x0A, 0x20):
                self.check([first])
        for first in range(0xC0, 256):
            for second in range(256):
                if second not in (0x0A, 0x20):
                    self.check([first, second])

    def test_three_and_four_bytes(self):
        edges = (0x21, 0x7E, 0x7F, 0x80, 0x8F, 0x90, 0x9F, 0xA0, 0xBF, 0xC0, 0xFF)
        for first in range(0xE0, 256):
            for second in edges:
                for third in edges:
                    self.check([first, second, third])
        for first in range(0xEF, 256):
            for second in edges:
                for third in edges:
                    for fourth in edges:
                        self.check([first, second, third, fourth])


class WrongSize(unittest.TestCase):
    """Kind 2."""

    def wrong(self, text, line=0):
        with self.subTest(text=text):
            self.assertEqual(told(read(text)), [fault(line, 2)])

    def test_more_than_six_letters(self):
        self.wrong("abcdefg x\n")
        self.wrong("abcdefg x a\n")
        self.assertEqual(told(read("abcdef x\n")), [[1]])

    def test_more_than_four_sounds(self):
        self.wrong("a vwxyz\n")
        self.wrong("a ααααα\n")
        self.assertEqual(told(read("a αβγ\U0010FFFF\n")), [[1]])

    def test_more_than_five_put_back(self):
        self.wrong("abcdef x abcdef\n")
        self.wrong("abcdefg x abcdef\n")
        self.assertEqual(told(read("abcdef x abcde\n")), [[1]])

    def test_as_many_put_back_as_letters(self):
        self.wrong("a x a\n")
        self.wrong("ab x cd\n")
        self.wrong("abcde x abcde\n")

    def test_more_put_back_than_letters(self):
        self.wrong("a x ab\n")
        self.wrong("abc x abcde\n")

    def test_one_fewer_put_back(self):
        for size in range(2, 7):
            letters = "abcdef"[:size]
            self.assertEqual(told(read(f"{letters} x {letters[1:]}\n")), [[1]])


class LettersAgain(unittest.TestCase):
    """Kind 3."""

    def wrong(self, text, line):
        with self.subTest(text=text):
            self.assertEqual(told(read(text)), [fault(line, 3)])

    def test_letters_that_a_line_before_has(self):
        self.wrong("a b\na b\n", 1)
        self.wrong("a b\na c\n", 1)
        self.wrong("ab c a\nab c\n", 1)
        self.wrong("a b\nc d\ne f\na g\nc h\n", 3)

    def test_letters_told_as_sounds_or_put_back_are_not_meant(self):
        self.assertEqual(told(read("a b\nb a\nab c a\n")), [[3]])


class TooManyLines(unittest.TestCase):
    """Kind 4."""

    def test_the_sixty_fifth_line(self):
        self.assertEqual(told(read(many_lines(65))), [fault(64, 4)])
        self.assertEqual(told(read(many_lines(64) + "~ x\n")), [fault(64, 4)])

    def test_more_lines_still(self):
        self.assertEqual(told(read(many_lines(70))), [fault(64, 4)])
        self.assertEqual(told(read(many_lines(65) + "\n")), [fault(64, 4)])

    def test_a_table_read_before_does_not_count(self):
        self.assertEqual(told(read(many_lines(64)), read(many_lines(64)), read("~ x\n")), [[64], [64], [1]])


class WhichFault(unittest.TestCase):
    """The first wrong line; of it the least kind."""

    def wrong(self, text, line, kind):
        with self.subTest(text=text):
            self.assertEqual(told(read(text)), [fault(line, kind)])

    def test_a_line_with_two_faults(self):
        self.wrong("abcdefg \n", 0, 1)
        self.wrong("abcdefg x\u007f\n", 0, 1)
        self.wrong("abcdefg x", 0, 1)
        self.wrong("a x\na x", 1, 1)
        self.wrong("a x\na \n", 1, 1)
        self.wrong("ab x\nab x cd\n", 1, 2)
        self.wrong("a x\na vwxyz\n", 1, 2)

    def test_the_sixty_fifth_line_with_another_fault(self):
        self.wrong(many_lines(64) + "\n", 64, 1)
        self.wrong(many_lines(64) + "~ x", 64, 1)
        self.wrong(many_lines(64) + "abcdefg x\n", 64, 2)
        self.wrong(many_lines(64) + "!! vwxyz\n", 64, 2)
        self.wrong(many_lines(64) + "!! x\n", 64, 3)

    def test_two_wrong_lines(self):
        self.wrong("abcdefg x\n\n", 0, 2)
        self.wrong("a x\na y\nab x ab\n", 1, 3)
        self.wrong("a x\n\nab x ab\n", 1, 1)
        self.wrong("a vwxyz\nb", 0, 2)
        self.wrong([0x61, 0x0A, 0x80, 0x0A], 0, 1)
        self.wrong(octets("a x\na x\n") + [0xFF, 0x0A], 1, 3)
        self.wrong("a x a\n" + many_lines(70), 0, 2)

    def test_the_last_line_alone_wrong(self):
        self.wrong(many_lines(63) + "a\n", 63, 1)
        self.wrong(many_lines(63) + "a x a\n", 63, 2)
        self.wrong(many_lines(63) + "!! x\n", 63, 3)


class Longest(unittest.TestCase):
    def test_bytes_too_many_are_not_looked_at(self):
        self.assertEqual(told(read([0x0A] * 65537)), [TOO_LONG])
        self.assertEqual(told(read([0xFF] * 70000)), [TOO_LONG])

    def test_the_most_bytes_are_looked_at(self):
        self.assertEqual(told(read([0x0A] * 65536)), [fault(0, 1)])


if __name__ == "__main__":
    unittest.main()
