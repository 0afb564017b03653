"""The call type: the shortest row of letters that has these sounds, of several the first in order."""

import itertools
import random
import unittest

from calling import (BEGIN, NO_CHARACTER, NONE, RUN_TEXT, TOO_LONG, WRITE, fault, letters, read, sounds, spell,
                     text_told, told, told_for)
from plain import first_of_any_size, first_rows, random_row, random_rules, rules_text, spelled_plainly


class ToldFor(unittest.TestCase):
    def check(self, text, heard, row):
        """The row is told for the sounds; None: no row is."""
        with self.subTest(text=text, heard=heard):
            self.assertEqual(told(read(text), told_for(heard))[1:], [NONE if row is None else letters(row)])

    def test_no_sounds(self):
        self.assertEqual(told(told_for("")), [[0]])
        self.check("a x\nbb x a\n", "", "")

    def test_without_rules_letters_are_their_own_sounds(self):
        self.assertEqual(told(told_for("nn!~"), told_for("α"), told_for("aα"), told_for([0x20]), told_for([0x7F]),
                              told_for([0])), [letters("nn!~"), NONE, NONE, NONE, NONE, NONE])

    def test_all_letters_are_letters(self):
        for number in range(0x21, 0x7F):
            self.assertEqual(told(told_for([number])), [[1, number]])

    def test_a_rule_s_sounds(self):
        self.check("ab x\n", "x", "x")
        self.check("ab α\n", "α", "ab")
        self.check("ab αβγδ\n", "αβγδ", "ab")
        self.check("ab αβγδ\n", "αβγδαβγδ", "abab")

    def test_a_part_of_a_rule_s_sounds(self):
        for heard in ("α", "αβ", "β", "βγ", "αβγα", "ααβγ"):
            self.check("ab αβγ\n", heard, None)

    def test_a_letter_that_a_rule_takes_is_no_sound_of_itself(self):
        self.check("a α\n", "a", None)
        self.check("a α\n", "ba", None)
        self.check("a α\nb a\n", "a", "b")
        self.check("ab α\n", "ab", None)
        self.check("ab α\n", "ba", "ba")
        self.check("ab α\n", "a", "a")
        self.check("ab α\n", "aab", None)

    def test_a_letter_that_a_rule_takes_for_itself(self):
        self.check("a a\n", "aa", "aa")
        self.check("ab a\n", "aab", "aabb")
        self.check("ab a\n", "ab", "abb")
        self.check("ab b\nb c\n", "b", "ab")

    def test_the_shortest_not_the_first_in_order(self):
        self.check("aa α\nb α\n", "α", "b")
        self.check("aa α\nb α\n", "αα", "bb")
        self.check("ab αβ\nx α\ny β\n", "αβ", "ab")
        self.check("aaa αβ\nx α\ny β\n", "αβ", "xy")

    def test_the_first_in_order_of_several_as_short(self):
        self.check("b α\na α\nc α\n", "ααα", "aaa")
        self.check("~ α\n! α\n0 α\n", "α", "!")
        self.check("bb αβ\nb α\na β\n", "αβ", "ba")
        self.check("c αβ\nx α\nab αβ\n", "αβαβ", "cc")
        self.check("ac αβ\nb α\nd β\n", "αβ", "ac")
        self.check("bc αβ\na α\nd β\n", "αβ", "ad")
        self.check("bd αβγ\nb α\na βγ\n", "αβγ", "ba")

    def test_the_first_in_order_counts_from_the_front(self):
        self.check("a α\nb α\nac β\nc γ\nbc αγ\n", "αγ", "bc")
        self.check("za αβ\na β\nb α\nz α\n", "αβ", "ba")

    def test_the_order_is_by_the_letters_not_by_the_rules(self):
        self.check("b αα\na α\nbc β\naa ααα\n", "αα", "b")
        self.check("ab α\nac β\naa αβ\n", "αβ", "aa")

    def test_each_sound_by_itself_may_sound_otherwise_together(self):
        self.check("n ν\na α\nna ξ\n", "να", None)
        self.check("n ν\na α\nna ξ\nm ν\n", "να", "ma")
        self.check("n ν\na α\nna ξ\nnn ν\n", "να", "nna")
        self.check("a x\nb y\nab z\naab xy\n", "xy", "ay")
        self.check("a α\nb β\nab γ\naab αβ\n", "αβ", "aab")

    def test_letters_as_sounds_may_sound_otherwise_together(self):
        self.check("ab α\n", "ab", None)
        self.check("ab α\nc b\n", "ab", "ac")
        self.check("bc α\nd c\n", "abc", "abd")

    def test_letters_put_back_are_sounds_by_what_follows(self):
        self.check("aa α a\na β\nab γ a\n", "ααβ", "aaa")
        self.check("aa α a\na β\nab γ a\n", "αγβ", "aab")
        self.check("aa α a\na β\nab γ a\n", "γ", None)
        self.check("kk σ k\nk κ\nka η\n", "ση", "kka")
        self.check("kk σ k\nk κ\nka η\n", "σσσκ", "kkkk")
        self.check("kk σ k\nk κ\nka η\n", "σ", None)

    def test_letters_put_back_are_no_letters_of_the_row(self):
        self.check("ab α c\nc γ\n", "αγ", "ab")
        self.check("ab α c\ncd β\n", "αβ", "abd")
        self.check("ab α c\n", "αc", "ab")
        self.check("abcdef α ghijk\nghijkl β\n", "αβ", "abcdefl")
        self.check("abcdef α ghijk\nghijk β\n", "αβ", "abcdef")

    def test_open_letters_at_the_end_are_spelled_by_rules(self):
        self.check("a α\nab β\nabcd γ\n", "β", "ab")
        self.check("a α\nab β\nabcd γ\nc δ\n", "βδ", "abc")
        self.check("ab β\nabcdef γ\ncde δ\n", "βδ", "abcde")

    def test_a_longer_rule_is_left_in_the_middle(self):
        self.check("a α\nbc β\nabcd γ\n", "αβα", "abca")
        self.check("ab α\nabcdef γ\nc β\nd δ\n", "αβδα", "abcdab")
        self.check("ab α\nabcdef γ\ncd β\ncdeg δ\n", "αδ", "abcdeg")

    def test_six_letters_each(self):
        self.check("abcdef α\n", "α" * 16, "abcdef" * 16)
        self.check("abcdef α\nghijkl β\n", "αβ" * 8, "abcdefghijkl" * 8)
        self.check("abcdef α\nabcdeg β\n", "αββα", "abcdefabcdegabcdegabcdef")

    def test_sixteen_sounds(self):
        self.check("a αβγδ\n", "αβγδ" * 4, "aaaa")
        self.check("a αβγδ\n", "αβγδ" * 3 + "αβγ", None)
        self.check("aa α a\na β\n", "α" * 15 + "β", "a" * 16)
        self.check("aa α a\n", "α" * 16, None)

    def test_sounds_are_compared_as_numbers(self):
        self.check("a \U0010FFFF\nb \uE000\nc \uD7FF\n", "\uD7FF\uE000\U0010FFFF", "cba")


class Refused(unittest.TestCase):
    def test_too_many_sounds(self):
        for row in ("a" * 17, "a" * 20, [0xD800] * 17, [2097151] * 20, [0x61] * 16 + [0xD800]):
            self.assertEqual(told(told_for(row)), [TOO_LONG])
        self.assertEqual(told(told_for("a" * 16)), [letters("a" * 16)])

    def test_no_characters(self):
        for number in (0xD800, 0xDABC, 0xDFFF, 0x110000, 0x110001, 2097151):
            for row in ([number], [0x61, number], [number, 0x61], [0x3B1, number], [0x61] * 15 + [number]):
                with self.subTest(number=number, size=len(row)):
                    self.assertEqual(told(told_for(row)), [NO_CHARACTER])

    def test_the_neighbours_that_are_characters(self):
        for number in (0, 0x20, 0x7F, 0x80, 0xD7FF, 0xE000, 0xFFFF, 0x10000, 0x10FFFF):
            self.assertEqual(told(told_for([number])), [NONE])
        for number in (0x21, 0x7E):
            self.assertEqual(told(told_for([number])), [[1, number]])

    def test_a_refused_call_changes_nothing(self):
        for call, answer in ((told_for("ξα"), letters("naa")), (told_for("κκ"), NONE),
                             (told_for([0xD800]), NO_CHARACTER), (told_for("a" * 17), TOO_LONG)):
            self.assertEqual(told(read("na ξ\na α\nkk κ k\n"), call, told_for("α"), call, spell("kkna"), WRITE),
                             [[3], answer, letters("a"), answer, sounds("κkξ"), text_told("a α\nkk κ k\nna ξ\n")])

    def test_behind_begin_and_reads(self):
        self.assertEqual(
            told(told_for("ξ"), read("na ξ\n"), told_for("ξ"), read("na ν\nb"), told_for("ξ"), read("b ξ\n"),
                 told_for("ξ"), BEGIN, told_for("ξ"), told_for("b")),
            [NONE, [1], letters("na"), fault(1, 1), letters("na"), [1], letters("b"), [0], NONE, letters("b")])
        self.assertEqual(told(read("b ξ"), told_for("ξ"), told_for("b")), [fault(0, 1), NONE, letters("b")])

    def test_the_same_call_again(self):
        self.assertEqual(told(read(RUN_TEXT), *[told_for("νξ")] * 3), [[7]] + [letters("nna")] * 3)


class Promised(unittest.TestCase):
    """A2, on many tables."""

    def answers_for(self, rules, rows):
        given = told(read(rules_text(rules)), *[told_for(heard) for heard in rows])[1:]
        return ["".join([chr(number) for number in answer[1:]]) if answer != NONE else None for answer in given]

    def test_against_all_short_rows(self):
        chance = random.Random(11)
        most = 5
        for turn in range(120):
            sound_signs = chance.choice(("αβ", "αa", "abc"))
            rules = random_rules(chance, "abc", sound_signs, chance.choice((2, 5, 12, 30)), chance.choice((2, 3, 6)))
            rows = first_rows(rules, "abc", most)
            wanted = ["".join(signs) for size in range(3) for signs in itertools.product("αβabc", repeat=size)]
            wanted += chance.sample(sorted([heard for heard in rows if len(heard) <= 16]), 10)
            for heard, row in zip(wanted, self.answers_for(rules, wanted)):
                if heard in rows:
                    self.assertEqual(row, rows[heard], (rules, heard))
                elif row is not None:
                    self.assertGreater(len(row), most, (rules, heard))
                    self.assertEqual(spelled_plainly(rules, row), heard, rules)

    def test_against_rows_of_any_size(self):
        chance = random.Random(12)
        for turn in range(150):
            rules = random_rules(chance, "ab", chance.choice(("α", "αβ", "ab")), chance.choice((3, 8, 20)))
            wanted = [spelled_plainly(rules, random_row(chance, "ab", 0, 24))[:16] for step in range(4)]
            wanted += [random_row(chance, "αβab", 1, 5) for step in range(2)]
            self.assertEqual(self.answers_for(rules, wanted),
                             [first_of_any_size(rules, "ab", heard) for heard in wanted], (rules, wanted))

    def test_what_is_told_has_the_sounds(self):
        chance = random.Random(13)
        for turn in range(60):
            rules = random_rules(chance, "abcd", "αβγ", 64)
            rows = [spelled_plainly(rules, random_row(chance, "abcd", 1, 8)) for step in range(6)]
            wanted = [numbers for numbers in rows if len(numbers) <= 16]
            for heard, row in zip(wanted, self.answers_for(rules, wanted)):
                self.assertEqual(told(read(rules_text(rules)), spell(row))[1:], [sounds(heard)], rules)


if __name__ == "__main__":
    unittest.main()
