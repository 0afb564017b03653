"""The call spell: what letters sound like when no more come."""

import random
import unittest

from calling import NO_LETTER, TOO_LONG, read, sounds, spell, told
from plain import random_rules, random_row, rules_text, spelled_plainly


class Spell(unittest.TestCase):
    def check(self, text, letters, heard):
        self.assertEqual(told(read(text), spell(letters))[1:], [sounds(heard)])

    def test_no_letters_no_sounds(self):
        self.assertEqual(told(spell("")), [[0]])
        self.check("a b\n", "", "")

    def test_the_longest_rule_not_the_first(self):
        self.check("a 1\nab 2\nabc 3\n", "abcabaac", "3211c")
        self.check("abc 3\nab 2\na 1\n", "abcabaac", "3211c")

    def test_a_longer_rule_that_does_not_fit_to_its_end(self):
        self.check("a 1\nabcdef 6\n", "abcdeabcdef", "1bcde6")

    def test_letters_without_a_rule_sound_as_themselves(self):
        self.check("na 1\n", "nbna~!", "nb1~!")

    def test_a_rule_inside_the_row_alone_does_not_fit_its_beginning(self):
        self.check("b 1\nbc 2\n", "abcb", "a21")

    def test_all_letters_are_letters(self):
        row = [number for number in range(0x21, 0x7F)]
        self.assertEqual(told(spell(row)), [[len(row)] + row])

    def test_longest_rule_and_most_sounds(self):
        self.check("abcdef wxyz\n", "abcdefabcdef", "wxyzwxyz")

    def test_sounds_are_numbers_of_characters(self):
        heard = [0x21, 0x80, 0x800, 0x10FFFF]
        text = "a " + "".join([chr(number) for number in heard]) + "\n"
        self.assertEqual(told(read(text), spell("a")), [[1], [4] + heard])

    def test_sounds_are_not_spelled_again(self):
        self.check("a b\nb c\n", "ab", "bc")
        self.check("a a\n", "aa", "aa")

    def test_letters_put_back_stand_before_the_rest(self):
        self.check("ab 1 c\n", "abd", "1cd")
        self.check("abc 1 xy\n", "abcz", "1xyz")

    def test_letters_put_back_join_with_what_follows(self):
        self.check("ab 1 c\ncd 2\n", "abd", "12")
        self.check("ab 1 b\nbcdefg 2\n", "abcdefg", "12")

    def test_letters_put_back_by_the_same_rule_again(self):
        self.check("aa 1 a\n", "aaaa", "111a")
        self.check("aa 1 a\na 2\n", "aaaa", "1112")

    def test_letters_put_back_that_no_rule_takes(self):
        self.check("abcdef 1 vwxyz\n", "abcdef", "1vwxyz")

    def test_letters_put_back_make_a_rule_among_themselves(self):
        self.check("abc 1 de\nde 2 f\nf 3\n", "abc", "123")

    def test_most_letters(self):
        self.assertEqual(told(spell("a" * 256)), [sounds("a" * 256)])
        self.check("aa 1 a\n", "a" * 256, "1" * 255 + "a")
        self.check("a wxyz\n", "a" * 256, "wxyz" * 256)

    def test_too_many_letters(self):
        self.assertEqual(told(spell("a" * 257)), [TOO_LONG])
        self.assertEqual(told(spell("a" * 300)), [TOO_LONG])

    def test_too_many_are_not_looked_at(self):
        self.assertEqual(told(spell([0x20] * 257)), [TOO_LONG])
        self.assertEqual(told(spell([2097151] * 300)), [TOO_LONG])

    def test_no_letters_in_the_row(self):
        for number in (0, 0x0A, 0x20, 0x7F, 0x80, 0x121, 0x3B1, 0xD800, 0x110000, 2097151):
            for row in ([number], [0x61, number], [number, 0x61], [0x61] * 255 + [number]):
                with self.subTest(number=number, size=len(row)):
                    self.assertEqual(told(spell(row)), [NO_LETTER])

    def test_the_least_and_the_greatest_letter(self):
        self.assertEqual(told(spell([0x21]), spell([0x7E])), [[1, 0x21], [1, 0x7E]])

    def test_many_tables(self):
        chance = random.Random(3)
        for turn in range(400):
            rules = random_rules(chance, "abc", "ABC", 12)
            row = random_row(chance, "abc", 0, 40)
            with self.subTest(rules=rules, row=row):
                self.assertEqual(told(read(rules_text(rules)), spell(row)),
                                 [[len(rules)], sounds(spelled_plainly(rules, row))])


if __name__ == "__main__":
    unittest.main()
