"""Names, kinds, plain kinds, numbers within bounds and list names ([2], [5], [22])."""

import unittest

from endlessnets.words import is_kind, is_name, is_number, is_plain, list_name
from tools import ANY_VALUES, LETTERS, outcome, raised


class NameTest(unittest.TestCase):
    def test_lengths(self):
        self.assertEqual([is_name("a" * size) for size in (0, 1, 2, 5, 6, 7, 20000)],
                         [False, True, True, True, True, False, False])
        for letter in LETTERS:
            self.assertIs(is_name(letter), True)

    def test_a_wrong_sign_anywhere(self):
        signs = [chr(code) for code in range(32, 127) if chr(code) not in LETTERS] + ["\n", "\u00e4"]
        for sign in signs:
            for word in (sign, sign + "abc", "ab" + sign + "c", "abc" + sign):
                self.assertIs(is_name(word), False, word)

    def test_no_strings(self):
        for value in ANY_VALUES:
            if not isinstance(value, str):
                self.assertIs(is_name(value), False)
        for value in (["a"], ("a",), {"a": "a"}, b"a"):
            self.assertIs(is_name(value), False)

    def test_by_name(self):
        self.assertIs(is_name(value="abc"), True)


class KindTest(unittest.TestCase):
    def test_lengths(self):
        for size, right in ((0, False), (1, True), (6, True), (7, True), (1999, True), (2000, True), (2001, False)):
            for sign in "az([,])":
                self.assertIs(is_kind(sign * size), right)
            self.assertIs(is_plain("q" * size), right)

    def test_signs(self):
        for code in [10, *range(32, 127), 228]:
            sign = chr(code)
            for word in (sign, sign + "ab", "a" + sign + "b", "ab" + sign):
                self.assertIs(is_kind(word), sign in LETTERS + "()[],", word)
                self.assertIs(is_plain(word), sign in LETTERS, word)

    def test_a_wrong_sign_in_a_long_kind(self):
        for at in (0, 999, 1999):
            for sign in ("\n", " ", "A", "0", "{"):
                word = "a" * at + sign + "a" * (1999 - at)
                self.assertEqual(len(word), 2000)
                self.assertIs(is_kind(word), False)
                self.assertIs(is_plain(word), False)
            marked = "a" * at + "(" + "a" * (1999 - at)
            self.assertIs(is_kind(marked), True)
            self.assertIs(is_plain(marked), False)

    def test_no_strings(self):
        for value in [value for value in ANY_VALUES if not isinstance(value, str)] + [["a"], ("a",), {"a": 1}]:
            self.assertIs(is_kind(value), False)
            self.assertIs(is_plain(value), False)

    def test_by_name(self):
        self.assertIs(is_kind(value="node(leaf)"), True)
        self.assertIs(is_plain(value="node"), True)


class NumberTest(unittest.TestCase):
    def test_bounds(self):
        for least, most in ((0, 5), (-3, 3), (7, 7), (-10 ** 39, 10 ** 39)):
            self.assertEqual([is_number(value, least, most) for value in (least - 1, least, most, most + 1)],
                             [False, True, True, False])
        self.assertIs(is_number(3, 5, 1), False)

    def test_true_and_false_are_none(self):
        self.assertIs(is_number(True, 0, 1), False)
        self.assertIs(is_number(False, 0, 1), False)

    def test_other_values(self):
        for value in ANY_VALUES + ["1", "0"]:
            if not isinstance(value, int):
                self.assertIs(is_number(value, -10 ** 40, 10 ** 40), False)

    def test_by_name(self):
        self.assertIs(is_number(most=4, value=4, least=4), True)


class ListNameTest(unittest.TestCase):
    def test_all(self):
        expected = [one + other for one in LETTERS for other in LETTERS]
        self.assertEqual([list_name(at) for at in range(676)], expected)
        self.assertEqual([list_name(0), list_name(25), list_name(26), list_name(at=675)], ["aa", "az", "ba", "zz"])

    def test_other_values(self):
        for value in [-1, 676, 10 ** 39, True, False] + [value for value in ANY_VALUES if not isinstance(value, int)]:
            self.assertEqual(outcome(list_name, value), raised("InvalidNumber", value=value))


if __name__ == "__main__":
    unittest.main()
