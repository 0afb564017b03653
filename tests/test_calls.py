"""How calls are laid and answered, begin, and that refused calls change nothing."""

import itertools
import time
import unittest

from calling import (BEGIN, NO_CHARACTER, NO_LETTER, NONE, RUN_TEXT, RUN_WRITTEN, TOO_LONG, WRITE, fault, left_open,
                     letters, octets, parted, read, sounds, spell, sure, sure_told, text_told, told, told_for)
from soundspelling.speller import answers


class Laid(unittest.TestCase):
    def test_no_calls_no_answers(self):
        self.assertEqual(answers([]), [])

    def test_answers_number_by_number(self):
        calls = [1, 2, 4, 0x61, 0x20, 0x62, 0x0A, 3, 4, 2, 0x61, 0x63, 4, 1, 0x20, 2, 1, 0x61, 4, 0]
        self.assertEqual(answers(calls), [
            1, 0,
            1, 1,
            5, 4, 0x61, 0x20, 0x62, 0x0A,
            3, 2, 0x62, 0x63,
            1, -3,
            3, -2, 0, 1,
            1, 0])

    def test_later_calls_answers_number_by_number(self):
        calls = [2, 11, 0x61, 0x20, 0x78, 0x0A, 0x61, 0x62, 0x63, 0x20, 0x79, 0x7A, 0x0A,
                 5, 4, 0x64, 0x61, 0x62, 0x64, 5, 3, 0x64, 0x61, 0x62, 5, 0, 6, 3, 0x64, 0x61, 0x62, 6, 1, 0x64, 6, 0,
                 7, 3, 0x79, 0x7A, 0x78, 7, 0, 7, 1, 0x3B1, 7, 1, 0xD800, 6, 1, 0x3B1, 5, 1, 0x3B1]
        self.assertEqual(answers(calls), [
            1, 2,
            6, 4, 0, 0x64, 0x78, 0x62, 0x64,
            3, 1, 2, 0x64,
            2, 0, 0,
            3, 2, 0x61, 0x62,
            1, 0,
            1, 0,
            4, 3, 0x79, 0x7A, 0x61,
            1, 0,
            1, -5,
            1, -3,
            1, -3,
            1, -3])

    def test_answers_are_a_list_of_plain_whole_numbers(self):
        laid = (BEGIN + read(RUN_TEXT) + WRITE + spell("kka") + read("a\n") + spell("\n") + sure("nn")
                + left_open("nn") + told_for("νξ") + told_for("κκ"))
        given = answers(laid)
        self.assertIs(type(given), list)
        self.assertEqual({type(number) for number in given}, {int})

    def test_what_is_handed_in_stays(self):
        laid = (read(RUN_TEXT) + spell("nnakkab") + sure("nnakk") + left_open("nnakk") + told_for("νξση")
                + read("a\n") + WRITE + BEGIN + spell([0x20]) + told_for([0xD800]))
        kept = list(laid)
        answers(laid)
        self.assertEqual(laid, kept)

    def test_what_is_given_back_is_not_what_was_handed_in(self):
        laid = read("a b\n") + WRITE
        given = answers(laid)
        given[-1] = 0
        self.assertEqual(answers(laid)[-1], 0x0A)

    def test_each_list_has_a_new_object(self):
        self.assertEqual(told(read(RUN_TEXT), spell("na")), [[7], sounds("ξ")])
        self.assertEqual(told(spell("na"), WRITE), [sounds("na"), text_told("")])
        self.assertEqual(told(read(RUN_TEXT), spell("na")), [[7], sounds("ξ")])

    def test_calls_in_any_order(self):
        self.assertEqual(
            told(WRITE, spell("a"), read("a b\n"), WRITE, spell("a"), BEGIN, spell("a"), WRITE, read("a c\n"),
                 spell("a")),
            [[0], sounds("a"), [1], text_told("a b\n"), sounds("b"), [0], sounds("a"), [0], [1], sounds("c")])


class New(unittest.TestCase):
    def test_a_new_object_has_no_rules(self):
        self.assertEqual(told(WRITE), [[0]])
        self.assertEqual(told(spell("nn!~")), [sounds("nn!~")])

    def test_begin_on_a_new_object(self):
        self.assertEqual(told(BEGIN, WRITE, BEGIN), [[0], [0], [0]])

    def test_begin_takes_the_rules_away(self):
        self.assertEqual(told(read(RUN_TEXT), BEGIN, WRITE, spell("na"), read("na x\n")),
                         [[7], [0], [0], sounds("na"), [1]])


class Refused(unittest.TestCase):
    def test_a_refused_call_leaves_the_table(self):
        refused = [
            (read("a α\nb\n"), fault(1, 1)),
            (read("x y\nnn ν nn\n"), fault(1, 2)),
            (read("x y\nx z\n"), fault(1, 3)),
            (read("x y"), fault(0, 1)),
            (read([0x78] * 65537), TOO_LONG),
            (spell("n" * 257), TOO_LONG),
            (spell("n n"), NO_LETTER),
            (sure("n" * 257), TOO_LONG),
            (sure("n n"), NO_LETTER),
            (left_open("n" * 257), TOO_LONG),
            (left_open("n n"), NO_LETTER),
            (told_for("n" * 17), TOO_LONG),
            (told_for([0xD800]), NO_CHARACTER),
            (told_for("κκ"), NONE),
        ]
        for call, answer in refused:
            with self.subTest(answer=answer):
                self.assertEqual(
                    told(read(RUN_TEXT), call, WRITE, spell("kkax"), call, spell("nna"), sure("kk"), told_for("ση")),
                    [[7], answer, text_told(RUN_WRITTEN), sounds("σηx"), answer, sounds("νξ"), sure_told("σ", 1),
                     letters("kka")])

    def test_a_refused_read_on_a_new_object(self):
        self.assertEqual(told(read("a b\nc"), spell("a"), WRITE), [fault(1, 1), sounds("a"), [0]])


class Greatest(unittest.TestCase):
    # Far above what is needed, far below what a walk of squares would take.
    SECONDS = 20

    def timed(self, laid):
        self.assertLessEqual(len(laid), 45000)
        start = time.monotonic()
        given = parted(answers(laid))
        self.assertLess(time.monotonic() - start, self.SECONDS)
        return given

    def same(self, given, wanted):
        # Without assertEqual's list of what differs: of lists so long it takes minutes.
        self.assertEqual(len(given), len(wanted))
        for answer, due in zip(given, wanted):
            if answer != due:
                self.fail(f"{answer[:100]}, not {due[:100]}")

    def test_most_calls(self):
        self.same(self.timed(read(RUN_TEXT) + spell("nna") * 299), [[7]] + [sounds("νξ")] * 299)
        self.same(self.timed(BEGIN * 300), [[0]] * 300)

    def test_most_letters(self):
        text = "a abcd\naaaaaa abcd aaaaa\n"
        given = self.timed(read(text) + spell("a" * 256) * 173)
        self.same(given, [[2]] + [sounds("abcd" * 256)] * 173)

    def test_most_letters_while_more_come(self):
        text = "a abcd\naaaaaa abcd aaaaa\n"
        given = self.timed(read(text) + sure("a" * 256) * 86 + left_open("a" * 256) * 86)
        self.same(given, [[2]] + [sure_told("abcd" * 251, 5)] * 86 + [letters("aaaaa")] * 86)

    def most_rules(self, heads, heard, back):
        """64 rules: these letters each by itself, and rows of six of them, till there are 64."""
        rows = ["".join(row) for row in itertools.product(heads, repeat=2)]
        rows = [row[0] + row[1] + row[0] + row[1] * 3 for row in rows]
        rules = [head + " " + heard + "\n" for head in heads]
        rules += [row + " " + heard + back + "\n" for row in rows]
        return "".join(rules[:64])

    def test_most_sounds_of_most_rules(self):
        for heads in ("abcdefgh", "abcdefghijklmnopqrstuvwxyz"):
            for back, wanted in (("", "aaaaabaaaaabaaaa"), (" abcde", "a" * 16)):
                text = self.most_rules(heads, "α", back)
                with self.subTest(text=text):
                    given = self.timed(read(text) + told_for("α" * 16) * 100 + told_for("α" * 15 + "γ") * 199)
                    self.same(given, [[64]] + [letters(wanted)] * 100 + [NONE] * 199)

    def test_rules_whose_letters_sound_by_themselves_too(self):
        # Of 16 sounds two must be rules': at most five letters by themselves stand before, between and behind.
        text = "".join([chr(0x22 + number) + "aaaaa a\n" for number in range(64)])
        wanted = "aaaa" + "\"aaaaa" + "aaaaa" + "\"aaaaa" + "aaaaa"
        given = self.timed(read(text) + told_for("a" * 16) * 150 + told_for("a" * 15 + "γ") * 149)
        self.same(given, [[64]] + [letters(wanted)] * 150 + [NONE] * 149)

    def test_most_letters_told_for_sounds(self):
        rows = [chr(0x21 + number) + "~~~~~" for number in range(64)]
        text = "".join([row + " " + chr(0x3B1 + number) + "\n" for number, row in enumerate(rows)])
        heard = [0x3B1 + number * 5 % 64 for number in range(16)]
        wanted = "".join([rows[number - 0x3B1] for number in heard])
        self.assertEqual(len(wanted), 96)
        self.same(self.timed(read(text) + told_for(heard) * 299), [[64]] + [letters(wanted)] * 299)

    def test_many_tables_and_letters_told(self):
        text = self.most_rules("abcdefgh", "α", "")
        one = read(text) + told_for("α" * 15 + "γ")
        times = 45000 // len(one)
        self.assertGreater(times, 50)
        self.same(self.timed(one * times), [[64], NONE] * times)

    def test_longest_texts(self):
        most = 44900
        cases = [
            ([0x61] * most, fault(0, 1)),
            ([0x0A] * most, fault(0, 1)),
            ([0x20] * most, fault(0, 1)),
            ([0x61] * (most - 3) + [0x20, 0x61, 0x0A], fault(0, 2)),
            ([0x61, 0x20] + [0x61] * (most - 3) + [0x0A], fault(0, 2)),
            (([0x61, 0x20] * most)[:most - 1] + [0x0A], fault(0, 1)),
            (([0x61, 0x20, 0x62, 0x0A] * most)[:most], fault(1, 3)),
            ([0xF4, 0x8F, 0xBF, 0xBF] * (most // 4), fault(0, 1)),
        ]
        for text, answer in cases:
            with self.subTest(text=text[:8]):
                self.same(self.timed(read(text)), [answer])

    def test_many_written_texts(self):
        lines = ["~~~~" + chr(0x21 + first) + chr(0x21 + second) + " " + "\U0010FFFF" * 4 + " ~~~~~\n"
                 for first in range(8) for second in range(8)]
        text = "".join(lines)
        self.same(self.timed(read(text) + WRITE * 299), [[64]] + [text_told(text)] * 299)


if __name__ == "__main__":
    unittest.main()
