"""The run that the document gives."""

import unittest

from calling import (NONE, RUN_TEXT, RUN_WRITTEN, WRITE, fault, left_open, letters, read, sounds, spell, sure,
                     sure_told, text_told, told, told_for)


class Run(unittest.TestCase):
    def test_spell(self):
        cases = {
            "na": "ξ",
            "n": "ν",
            "nn": "νν",
            "nna": "νξ",
            "kka": "ση",
            "b": "b",
            "bna": "bξ",
            "kn": "κν",
        }
        for letters, heard in cases.items():
            with self.subTest(letters=letters):
                self.assertEqual(told(read(RUN_TEXT), spell(letters)), [[7], sounds(heard)])

    def test_what_the_other_calls_of_the_run_say_of_spelling(self):
        cases = {"nk": "νκ", "kk": "σκ", "kkk": "σσκ", "ab": "αb", "a": "α", "k": "κ"}
        for letters, heard in cases.items():
            with self.subTest(letters=letters):
                self.assertEqual(told(read(RUN_TEXT), spell(letters)), [[7], sounds(heard)])

    def test_sure_and_open(self):
        cases = {"n": ("", "n"), "nn": ("ν", "n"), "nk": ("ν", "k"), "kkk": ("σσ", "k"), "ab": ("αb", "")}
        for row, (heard, left) in cases.items():
            with self.subTest(row=row):
                self.assertEqual(told(read(RUN_TEXT), sure(row), left_open(row)),
                                 [[7], sure_told(heard, len(left)), letters(left)])

    def test_told_for_sounds(self):
        cases = {"ξ": "na", "νν": "nn", "b": "b", "ν": "n", "νξ": "nna", "κν": "kn"}
        for heard, row in cases.items():
            with self.subTest(heard=heard):
                self.assertEqual(told(read(RUN_TEXT), told_for(heard)), [[7], letters(row)])
        for heard in ("να", "κα", "κκ", "a"):
            with self.subTest(heard=heard):
                self.assertEqual(told(read(RUN_TEXT), told_for(heard)), [[7], NONE])

    def test_written(self):
        self.assertEqual(told(read(RUN_TEXT), WRITE), [[7], text_told(RUN_WRITTEN)])

    def test_last_line_changed(self):
        changed = RUN_WRITTEN.replace("nn ν n\n", "nn ν nn\n")
        self.assertEqual(told(read(changed)), [fault(6, 2)])


if __name__ == "__main__":
    unittest.main()
