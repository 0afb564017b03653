"""How calls are laid and answered, begin, and that refused calls change nothing."""

import time
import unittest

from calling import (BEGIN, NO_LETTER, RUN_TEXT, RUN_WRITTEN, TOO_LONG, WRITE, fault, parted, read, sounds, spell,
                     text_told, told)
from soundspelling.speller import answers


class Laid(unittest.TestCase):
    def test_no_calls_no_answers(self):
        self.assertEqual(answers([]), [])

    def test_answers_number_by_number(self):
        calls = [1, 2, 4, 0x61, 0x20, 0x62, 0x0A, 3, 4, 2, 0x61, 0x63, 4, 1, 0x20, 2, 1, 0x61, 4, 0]
        self.assertEqual(answers(calls), [
            1, 0,
            1, 1,
            5, 4, 0x61, 0x20, 0x62, 0x0A,
            3, 2, 0x62, 0x63,
            1, -3,
            3, -2, 0, 1,
            1, 0])

    def test_answers_are_a_list_of_plain_whole_numbers(self):
        laid = BEGIN + read(RUN_TEXT) + WRITE + spell("kka") + read("a\n") + spell("\n")
        given = answers(laid)
        self.assertIs(type(given), list)
        self.assertEqual({type(number) for number in given}, {int})

    def test_what_is_handed_in_stays(self):
        laid = read(RUN_TEXT) + spell("nnakkab") + read("a\n") + WRITE + BEGIN + spell([0x20])
        kept = list(laid)
        answers(laid)
        self.assertEqual(laid, kept)

    def test_what_is_given_back_is_not_what_was_handed_in(self):
        laid = read("a b\n") + WRITE
        given = answers(laid)
        given[-1] = 0
        self.assertEqual(answers(laid)[-1], 0x0A)

    def test_each_list_has_a_new_object(self):
        self.assertEqual(told(read(RUN_TEXT), spell("na")), [[7], sounds("ξ")])
        self.assertEqual(told(spell("na"), WRITE), [sounds("na"), text_told("")])
        self.assertEqual(told(read(RUN_TEXT), spell("na")), [[7], sounds("ξ")])

    def test_calls_in_any_order(self):
        self.assertEqual(
            told(WRITE, spell("a"), read("a b\n"), WRITE, spell("a"), BEGIN, spell("a"), WRITE, read("a c\n"),
                 spell("a")),
            [[0], sounds("a"), [1], text_told("a b\n"), sounds("b"), [0], sounds("a"), [0], [1], sounds("c")])


class New(unittest.TestCase):
    def test_a_new_object_has_no_rules(self):
        self.assertEqual(told(WRITE), [[0]])
        self.assertEqual(told(spell("nn!~")), [sounds("nn!~")])

    def test_begin_on_a_new_object(self):
        self.assertEqual(told(BEGIN, WRITE, BEGIN), [[0], [0], [0]])

    def test_begin_takes_the_rules_away(self):
        self.assertEqual(told(read(RUN_TEXT), BEGIN, WRITE, spell("na"), read("na x\n")),
                         [[7], [0], [0], sounds("na"), [1]])


class Refused(unittest.TestCase):
    def test_a_refused_call_leaves_the_table(self):
        refused = [
            (read("a α\nb\n"), fault(1, 1)),
            (read("x y\nnn ν nn\n"), fault(1, 2)),
            (read("x y\nx z\n"), fault(1, 3)),
            (read("x y"), fault(0, 1)),
            (read([0x78] * 65537), TOO_LONG),
            (spell("n" * 257), TOO_LONG),
            (spell("n n"), NO_LETTER),
        ]
        for call, answer in refused:
            with self.subTest(answer=answer):
                self.assertEqual(
                    told(read(RUN_TEXT), call, WRITE, spell("kkax"), call, spell("nna")),
                    [[7], answer, text_told(RUN_WRITTEN), sounds("σηx"), answer, sounds("νξ")])

    def test_a_refused_read_on_a_new_object(self):
        self.assertEqual(told(read("a b\nc"), spell("a"), WRITE), [fault(1, 1), sounds("a"), [0]])


class Greatest(unittest.TestCase):
    # Far above what is needed, far below what a walk of squares would take.
    SECONDS = 20

    def timed(self, laid):
        self.assertLessEqual(len(laid), 45000)
        start = time.monotonic()
        given = parted(answers(laid))
        self.assertLess(time.monotonic() - start, self.SECONDS)
        return given

    def test_most_calls(self):
        self.assertEqual(self.timed(read(RUN_TEXT) + spell("nna") * 299), [[7]] + [sounds("νξ")] * 299)
        self.assertEqual(self.timed(BEGIN * 300), [[0]] * 300)

    def test_most_letters(self):
        text = "a abcd\naaaaaa abcd aaaaa\n"
        given = self.timed(read(text) + spell("a" * 256) * 173)
        self.assertEqual(given, [[2]] + [sounds("abcd" * 256)] * 173)

    def test_longest_texts(self):
        most = 44900
        cases = [
            ([0x61] * most, fault(0, 1)),
            ([0x0A] * most, fault(0, 1)),
            ([0x20] * most, fault(0, 1)),
            ([0x61] * (most - 3) + [0x20, 0x61, 0x0A], fault(0, 2)),
            ([0x61, 0x20] + [0x61] * (most - 3) + [0x0A], fault(0, 2)),
            (([0x61, 0x20] * most)[:most - 1] + [0x0A], fault(0, 1)),
            (([0x61, 0x20, 0x62, 0x0A] * most)[:most], fault(1, 3)),
            ([0xF4, 0x8F, 0xBF, 0xBF] * (most // 4), fault(0, 1)),
        ]
        for text, answer in cases:
            with self.subTest(text=text[:8]):
                self.assertEqual(self.timed(read(text)), [answer])

    def test_many_written_texts(self):
        lines = ["~~~~" + chr(0x21 + first) + chr(0x21 + second) + " " + "\U0010FFFF" * 4 + " ~~~~~\n"
                 for first in range(8) for second in range(8)]
        text = "".join(lines)
        self.assertEqual(self.timed(read(text) + WRITE * 299), [[64]] + [text_told(text)] * 299)


if __name__ == "__main__":
    unittest.main()
