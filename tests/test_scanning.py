"""Points 2 to 8, 108, 109 and 117, and the interface of undobystate/scanning.py."""

import itertools
import unittest

from cases import LONG_NUMBER, NO_TEXTS, NO_TOKEN, TextCase, scanned_by_words
from undobystate.scanning import scan


class ScanCase(TextCase):

    def assert_problem(self, text, column, words):
        self.assert_text_error(column, words, scan, text)


class ScanTest(ScanCase):

    def test_an_ordinary_text(self):
        self.assertEqual(scan("3 start 0; a 1 0 2"), [
            ("number", "3", 1), ("word", "start", 3), ("number", "0", 9), ("sign", ";", 10), ("letter", "a", 12),
            ("number", "1", 14), ("number", "0", 16), ("number", "2", 18), ("end", "", 19)])

    def test_no_tokens(self):
        self.assertEqual(scan(""), [("end", "", 1)])
        self.assertEqual(scan(" "), [("end", "", 2)])
        self.assertEqual(scan(" " * 300), [("end", "", 301)])

    def test_blanks_change_nothing_but_columns(self):
        self.assertEqual(scan("  a   b "), [("letter", "a", 3), ("letter", "b", 7), ("end", "", 9)])
        self.assertEqual(scan("ab"), [("letter", "a", 1), ("letter", "b", 2), ("end", "", 3)])
        self.assertEqual(scan("12 34"), [("number", "12", 1), ("number", "34", 4), ("end", "", 6)])
        self.assertEqual(scan("1234"), [("number", "1234", 1), ("end", "", 5)])

    def test_each_letter_and_no_other_one(self):
        self.assertEqual([token[:2] for token in scan("abcd")[:-1]], [("letter", letter) for letter in "abcd"])
        for other in "efghijklmnopqrstuvwxyzABCDS":
            self.assert_problem(other, 1, NO_TOKEN)

    def test_each_digit(self):
        for digit in "0123456789":
            self.assertEqual(scan(digit), [("number", digit, 1), ("end", "", 2)])

    def test_numbers_of_6_digits_and_of_7(self):
        for digits in ("123456", "000000", "999999", "000001"):
            self.assertEqual(scan(digits), [("number", digits, 1), ("end", "", 7)])
            for text, column in ((digits + "0", 1), ("  " + digits + "1", 3), ("a" + digits * 2, 2), (digits * 9, 1)):
                self.assert_problem(text, column, LONG_NUMBER)
            self.assertEqual([token[0] for token in scan(f"{digits} {digits}")], ["number", "number", "end"])
            self.assertEqual([token[0] for token in scan(f"{digits}a{digits}")], ["number", "letter", "number", "end"])

    def test_the_word_wherever_it_begins(self):
        self.assertEqual(scan("3start0")[:-1], [("number", "3", 1), ("word", "start", 2), ("number", "0", 7)])
        self.assertEqual([token[1] for token in scan("astart")], ["a", "start", ""])
        self.assertEqual([token[1] for token in scan("starta")], ["start", "a", ""])
        self.assertEqual([token[1] for token in scan("startstart")], ["start", "start", ""])
        self.assertEqual([token[1] for token in scan(";start;")], [";", "start", ";", ""])
        self.assertEqual([token[2] for token in scan("123456start123456")], [1, 7, 12, 18])

    def test_parts_of_the_word(self):
        for text in ("s", "st", "sta", "star", "Start", "START", "stbrt", "starT", "s tart", "sstart", "star t"):
            self.assert_problem(text, 1, NO_TOKEN)
        self.assert_problem("tart", 1, NO_TOKEN)
        self.assert_problem("startt", 6, NO_TOKEN)
        self.assert_problem("starts", 6, NO_TOKEN)
        self.assert_problem("start star", 7, NO_TOKEN)
        self.assert_problem("art", 2, NO_TOKEN)

    def test_characters_that_begin_no_token(self):
        for character in "\t\r\x0b\x0c\x00\x1c\x85\u00a0\u2028\u3000?!.,:-+_\"'{}()[]<>|*/\\\u00e4\u0430\uff41":
            for ahead in ("", " ", "a", "12", "12a;"):
                self.assert_problem(ahead + character + "a", len(ahead) + 1, NO_TOKEN)
        self.assert_problem("-1", 1, NO_TOKEN)

    def test_digits_of_other_scripts_are_none(self):
        for character in "\u0660\u0969\uff11\u00b2\u2460\u0bed":
            self.assertTrue(character.isdigit())
            self.assert_problem(character, 1, NO_TOKEN)
            self.assert_problem("1" + character, 2, NO_TOKEN)

    def test_the_first_token_that_has_a_problem_is_reported(self):
        self.assert_problem("? 1234567", 1, NO_TOKEN)
        self.assert_problem("1234567 ?", 1, LONG_NUMBER)
        self.assert_problem("1234567?", 1, LONG_NUMBER)
        self.assert_problem("123456 ? 1234567", 8, NO_TOKEN)
        self.assert_problem("a b ? !", 5, NO_TOKEN)
        self.assert_problem("12 1234567 12345678", 4, LONG_NUMBER)

    def test_problems_at_the_end_of_a_long_text(self):
        self.assert_problem(" " * 299 + "?", 300, NO_TOKEN)
        self.assert_problem(" " * 293 + "1234567", 294, LONG_NUMBER)
        self.assert_problem(" " * 296 + "star", 297, NO_TOKEN)

    def test_all_short_texts(self):
        found = {list: 0, tuple: 0}
        for length in range(5):
            for parts in itertools.product(["a", "d", "1", "0", " ", ";", "start", "s", "?", "123456"], repeat=length):
                text = "".join(parts)
                right = scanned_by_words(text)
                found[type(right)] += 1
                if isinstance(right, tuple):
                    self.assert_problem(text, *right)
                else:
                    with self.subTest(text=text):
                        self.assertEqual(scan(text), right)
        self.assertGreater(min(found.values()), 1000)

    def test_tokens_tell_the_text(self):
        for text in ("3 start 0; a 1 0 2; b 1 1 0", "  ab  cd ", "8start7;a0 1 2 3 4 5 6 7", "00012;;startstart"):
            tokens = scan(text)
            for _, characters, column in tokens:
                self.assertEqual(text[column - 1:column - 1 + len(characters)], characters)
            self.assertEqual("".join(token[1] for token in tokens), text.replace(" ", ""))

    def test_300_characters_and_301(self):
        self.assertEqual(len(scan("a" * 300)), 301)
        self.assertEqual(scan("a" * 300)[-1], ("end", "", 301))
        self.assert_bad("text", scan, "a" * 301)

    def test_a_line_feed_is_no_part_of_a_text_and_other_signs_of_lines_are(self):
        for text in ("\n", "a\n", "\na", "3 start 0\n"):
            self.assert_bad("text", scan, text)
        for text in ("\r", "\x0b", "\u2028", "\x85"):
            self.assert_problem(text, 1, NO_TOKEN)


class WrongArgumentTest(ScanCase):

    def test_text(self):
        self.assert_checked(scan, ("a",), [("text", NO_TEXTS)])


class SameCallTest(ScanCase):

    def test_a_new_list_with_each_call(self):
        told = scan("ab")
        self.assertIs(type(told), list)
        told.clear()
        told.append("other")
        self.assertEqual(scan("ab"), [("letter", "a", 1), ("letter", "b", 2), ("end", "", 3)])
        self.assertIsNot(scan("ab"), scan("ab"))

    def test_kinds_of_values(self):
        for token in scan("3 start 0; a"):
            self.assertEqual([type(token), *(type(item) for item in token)], [tuple, str, str, int])

    def test_an_error_changes_nothing(self):
        for _ in range(2):
            self.assert_problem("a?", 2, NO_TOKEN)
            self.assertEqual(scan("a"), [("letter", "a", 1), ("end", "", 2)])

    def test_the_argument_by_its_name(self):
        self.assertEqual(scan(text=";"), [("sign", ";", 1), ("end", "", 2)])


if __name__ == "__main__":
    unittest.main()
