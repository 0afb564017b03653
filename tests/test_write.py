"""The call write: a table's text, and that one table has one text."""

import itertools
import random
import unittest

from calling import RUN_TEXT, RUN_WRITTEN, WRITE, octets, read, text_told, told


class Write(unittest.TestCase):
    def check(self, text, wanted):
        self.assertEqual(told(read(text), WRITE)[1:], [text_told(wanted)])

    def test_no_rules(self):
        self.assertEqual(told(WRITE), [[0]])
        self.check("", "")

    def test_all_orders_of_the_lines(self):
        lines = ["a x\n", "ab y a\n", "abc z\n", "b w\n"]
        for order in itertools.permutations(lines):
            self.check("".join(order), "".join(lines))

    def test_the_order_is_by_the_letters_numbers(self):
        self.check("~ 1\na 2\nZ 3\n! 4\n9 5\n", "! 4\n9 5\nZ 3\na 2\n~ 1\n")

    def test_the_first_place_that_differs_counts_not_the_length(self):
        self.check("b 1\naaaaaa 2\nab 3\naa 4\n", "aa 4\naaaaaa 2\nab 3\nb 1\n")

    def test_a_beginning_stands_before_what_it_begins(self):
        self.check("a!! 1\na! 2\na 3\n", "a 3\na! 2\na!! 1\n")

    def test_the_sounds_do_not_order(self):
        self.check("b a\na b\n", "a b\nb a\n")

    def test_letters_put_back_are_written(self):
        self.check("abcdef 1 vwxyz\nab 2 z\n", "ab 2 z\nabcdef 1 vwxyz\n")

    def test_bytes_are_counted_not_characters(self):
        text = "a \u00e9\u07ff\u0800\U0010FFFF\n"
        self.assertEqual(told(read(text), WRITE)[1], [2 + 2 + 2 + 3 + 4 + 1] + octets(text))

    def test_sounds_at_the_edges_of_the_forms(self):
        for number in (0x21, 0x7E, 0x80, 0x7FF, 0x800, 0xFFF, 0x1000, 0xD7FF, 0xE000, 0xFFFF, 0x10000, 0x3FFFF,
                       0x40000, 0xFFFFF, 0x100000, 0x10FFFF):
            text = "a " + chr(number) + "\n"
            with self.subTest(number=number):
                self.check(text, text)

    def test_writing_changes_nothing(self):
        self.assertEqual(told(read(RUN_TEXT), WRITE, WRITE), [[7], text_told(RUN_WRITTEN), text_told(RUN_WRITTEN)])

    def test_written_and_read_again_it_is_the_same(self):
        chance = random.Random(12)
        signs = "abc!~\u00e9\u03b1\u20ac\U0001F600"

        def row(row_signs, least, most):
            return "".join([chance.choice(row_signs) for step in range(chance.randint(least, most))])

        for turn in range(200):
            rules = {}
            for step in range(chance.randint(0, 64)):
                letters = row("abc!~", 1, 6)
                rules[letters] = [letters, row(signs, 1, 4), row("abc!~", 0, len(letters) - 1)]
            lines = {letters: " ".join([part for part in rules[letters] if part]) + "\n" for letters in rules}
            ordered = "".join([lines[letters] for letters in sorted(lines)])
            with self.subTest(turn=turn):
                self.assertEqual(told(read("".join(lines.values())), WRITE, read(ordered), WRITE),
                                 [[len(rules)], text_told(ordered), [len(rules)], text_told(ordered)])


if __name__ == "__main__":
    unittest.main()
