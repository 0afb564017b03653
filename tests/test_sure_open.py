"""The calls sure and open: what letters sound like while more still come."""

import random
import unittest

from calling import (BEGIN, NO_LETTER, RUN_TEXT, TOO_LONG, WRITE, fault, left_open, letters, read, sounds, spell, sure,
                     sure_told, text_told, told)
from plain import random_row, random_rules, rules_text, spelled_plainly, sure_plainly

NOT_LETTERS = (0, 0x0A, 0x20, 0x7F, 0x80, 0x121, 0x3B1, 0xD800, 0x110000, 2097151)


class SureAndOpen(unittest.TestCase):
    def check(self, text, row, heard, left):
        with self.subTest(text=text, row=row):
            self.assertEqual(told(read(text), sure(row), left_open(row))[1:],
                             [sure_told(heard, len(left)), letters(left)])

    def test_no_letters(self):
        self.assertEqual(told(sure(""), left_open("")), [[0, 0], [0]])
        self.check("a x\nab y\n", "", "", "")

    def test_without_rules_all_is_sure(self):
        self.assertEqual(told(sure("nn!~"), left_open("nn!~")), [sure_told("nn!~", 0), [0]])

    def test_a_beginning_of_a_rule_is_open(self):
        for size in range(1, 6):
            self.check("abcdef x\n", "abcdef"[:size], "", "abcdef"[:size])
        self.check("abcdef x\n", "abcdef", "x", "")

    def test_a_whole_rule_is_open_while_a_longer_one_may_come(self):
        self.check("a x\nab y\nabc z\n", "a", "", "a")
        self.check("a x\nab y\nabc z\n", "ab", "", "ab")
        self.check("a x\nab y\nabc z\n", "abc", "z", "")

    def test_a_whole_rule_that_begins_no_longer_one_is_sure(self):
        self.check("a x\nb y\n", "ab", "xy", "")
        self.check("a x\nba y\n", "a", "x", "")

    def test_the_longer_rule_did_not_come(self):
        self.check("a x\nabc y\nb z\n", "abd", "xzd", "")
        self.check("a x\nabc y\nb z\n", "aba", "xz", "a")
        self.check("abcdef x\n", "abcdea", "abcde", "a")
        self.check("abcdef x\nbcde y\n", "abcdea", "ay", "a")
        self.check("abcdef x\nbcdefg y\n", "abcdeg", "abcdeg", "")
        self.check("abcdef x\ncdegh y\n", "abcdeg", "ab", "cdeg")

    def test_all_that_is_left_must_be_a_beginning(self):
        self.check("ab x\n", "ac", "ac", "")
        self.check("ab x\n", "ca", "c", "a")
        self.check("abc x\n", "bc", "bc", "")
        self.check("bcd x\n", "abc", "a", "bc")

    def test_longer_than_a_rule_is_not_open(self):
        self.check("aaa x\n", "aaaaa", "x", "aa")
        self.check("aaa x\n", "aaaaaa", "xx", "")
        self.check("ab x\nabc y\n", "abab", "x", "ab")
        self.check("ab x\nabc y\n", "abcab", "y", "ab")

    def test_letters_as_long_as_a_beginning_of_a_longer_rule(self):
        self.check("abc x\nabdef y\n", "abd", "", "abd")
        self.check("abc x\nabdef y\n", "abc", "x", "")
        self.check("abc x\nabdef y\n", "abe", "abe", "")

    def test_letters_put_back_are_open(self):
        self.check("aa x a\n", "aa", "x", "a")
        self.check("aa x a\n", "aaaa", "xxx", "a")
        self.check("abcdef x bcde\nbcdeg y\n", "abcdef", "x", "bcde")
        self.check("ab x c\ncde y\n", "ab", "x", "c")
        self.check("ab x c\ncde y\n", "abd", "x", "cd")
        self.check("ab x c\ncde y\n", "abde", "xy", "")

    def test_letters_put_back_that_begin_nothing_are_sure(self):
        self.check("ab x c\n", "ab", "xc", "")
        self.check("ab x c\nc y\n", "ab", "xy", "")
        self.check("abc x de\ne y\nef z\n", "abc", "xd", "e")

    def test_letters_put_back_join_with_what_follows(self):
        self.check("ab x b\nbc y\n", "abc", "xy", "")
        self.check("ab x b\nbc y\nbcd z\n", "abc", "x", "bc")
        self.check("ab x b\nbc y\nbcd z\n", "abce", "xye", "")

    def test_letters_put_back_are_more_than_came_last(self):
        self.check("abcdef x ghijk\nghijkl y\n", "abcdef", "x", "ghijk")
        self.check("abcdef x ghijk\nghijkl y\n", "abcdefl", "xy", "")

    def test_the_most_letters(self):
        self.check("aa x a\n", "a" * 256, "x" * 255, "a")
        self.check("aaaaaa x\n", "a" * 256, "x" * 42, "aaaa")
        self.check("b x\n", "a" * 256, "a" * 256, "")

    def test_the_sounds_of_a_rule_are_not_spelled(self):
        self.check("b a\nab x\n", "bb", "aa", "")


class Refused(unittest.TestCase):
    def test_too_many_letters(self):
        for call in (sure, left_open):
            for row in ("a" * 257, "a" * 300, [0x20] * 257, [2097151] * 300, [0x61] * 256 + [0x20]):
                self.assertEqual(told(call(row)), [TOO_LONG])

    def test_no_letters_in_the_row(self):
        for call in (sure, left_open):
            for number in NOT_LETTERS:
                for row in ([number], [0x61, number], [number, 0x61], [0x61] * 255 + [number]):
                    with self.subTest(number=number, size=len(row)):
                        self.assertEqual(told(call(row)), [NO_LETTER])

    def test_the_least_and_the_greatest_letter(self):
        for number in (0x21, 0x7E):
            self.assertEqual(told(sure([number]), left_open([number])), [[1, 0, number], [0]])

    def test_behind_begin_and_a_refused_read(self):
        self.assertEqual(told(read(RUN_TEXT), read("ab x\nb"), sure("nn"), BEGIN, sure("nn"), left_open("nn")),
                         [[7], fault(1, 1), sure_told("ν", 1), [0], sure_told("nn", 0), [0]])
        self.assertEqual(told(read("ab x\nb"), sure("a"), left_open("a")), [fault(1, 1), sure_told("a", 0), [0]])

    def test_another_table_is_another_answer(self):
        self.assertEqual(told(read("ab x\n"), left_open("a"), read("bc x\n"), left_open("a"), left_open("b")),
                         [[1], letters("a"), [1], [0], letters("b")])

    def test_calls_leave_no_letters_behind(self):
        self.assertEqual(told(read("na x\n"), sure("n"), left_open("n"), sure("a"), spell("a"), WRITE),
                         [[1], [0, 1], letters("n"), sure_told("a", 0), sounds("a"), text_told("na x\n")])


class Promised(unittest.TestCase):
    """A1, on many tables."""

    def tables(self, seed, count):
        chance = random.Random(seed)
        for turn in range(count):
            yield chance, random_rules(chance, "abc", chance.choice(("xyz", "αa")), chance.choice((2, 6, 12, 30)))

    def test_against_the_plain_words(self):
        for chance, rules in self.tables(5, 200):
            rows = [random_row(chance, "abcd", 0, 30) for turn in range(5)]
            given = told(read(rules_text(rules)), *[call(row) for row in rows for call in (sure, left_open)])
            wanted = [[len(rules)]]
            for row in rows:
                heard, left = sure_plainly(rules, row)
                wanted += [sure_told(heard, len(left)), letters(left)]
            self.assertEqual(given, wanted, (rules, rows))

    def test_sure_and_then_the_open_ones_spelled_is_the_whole_spelled(self):
        for chance, rules in self.tables(6, 200):
            row = random_row(chance, "abc", 0, 30)
            text = rules_text(rules)
            count, surely, left, whole = told(read(text), sure(row), left_open(row), spell(row))
            count, behind = told(read(text), spell(left[1:]))
            self.assertEqual(surely[2:] + behind[1:], whole[1:], (rules, row))
            self.assertEqual(surely[:2], [len(surely) - 2, left[0]])

    def test_what_is_sure_begins_what_is_told_whatever_comes(self):
        for chance, rules in self.tables(7, 200):
            row = random_row(chance, "abc", 0, 12)
            text = rules_text(rules)
            count, surely = told(read(text), sure(row))
            longer = [row + random_row(chance, "abcd", 0, 8) for turn in range(8)]
            for behind in told(read(text), *[spell(letters_more) for letters_more in longer])[1:]:
                self.assertEqual(behind[1:][:surely[0]], surely[2:], (rules, row))

    def test_letter_by_letter_or_at_once(self):
        for chance, rules in self.tables(8, 100):
            row = random_row(chance, "abc", 0, 20)
            text = rules_text(rules)
            heard, left = [], []
            for sign in row:
                count, surely, opened = told(read(text), sure(left + [ord(sign)]), left_open(left + [ord(sign)]))
                heard += surely[2:]
                left = opened[1:]
            self.assertEqual(told(read(text), sure(row), left_open(row))[1:],
                             [sure_told(heard, len(left)), letters(left)], (rules, row))
            self.assertEqual("".join([chr(number) for number in heard]),
                             spelled_plainly(rules, row)[:len(heard)])


if __name__ == "__main__":
    unittest.main()
