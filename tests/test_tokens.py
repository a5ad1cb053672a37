"""Points 3 and 5: tokens and places."""

import unittest

from support import SourceCase

from lineworks.parsing import parse_item, parse_query, parse_source
from lineworks.tokens import place, tokens


class Tokens(SourceCase):
    def unknown(self, source):
        """The source is refused at its mark `~`."""
        self.refused_at(tokens, source, "unknown character")

    def test_the_example(self):
        self.assertEqual(tokens("a <= 07 # end"), [("word", "a", 0), ("sign", "<=", 2), ("number", 7, 5)])

    def test_nothing(self):
        for source in ("", " ", "\t", "\n", " \t\n \n", "#", "# a", "#\n", "# a 'b ! \n \t# c"):
            self.assertEqual(tokens(source), [], repr(source))

    def test_words(self):
        for word in ("a", "Z", "_", "__", "a1", "_0", "aZ_9", "from", "From", "table"):
            self.assertEqual(tokens(word), [("word", word, 0)])

    def test_every_letter_and_digit(self):
        letters = "abcdefghijklmnopqrstuvwxyzABCDEFGHIJKLMNOPQRSTUVWXYZ_"
        for letter in letters:
            self.assertEqual(tokens(letter), [("word", letter, 0)])
            self.assertEqual(tokens("a" + letter), [("word", "a" + letter, 0)])
        for digit in "0123456789":
            self.assertEqual(tokens(digit), [("number", int(digit), 0)])
            self.assertEqual(tokens("a" + digit), [("word", "a" + digit, 0)])
            self.assertEqual(tokens("1" + digit), [("number", 10 + int(digit), 0)])

    def test_numbers(self):
        for text, number in (("0", 0), ("00", 0), ("007", 7), ("10", 10), ("9" * 15, 10 ** 15 - 1)):
            self.assertEqual(tokens(text), [("number", number, 0)])

    def test_texts(self):
        for text, value in (
            ("''", ""), ("'a'", "a"), ("''''", "'"), ("'a''b'", "a'b"), ("'''a'''", "'a'"), ("''''''", "''"),
            ("'# no'", "# no"), ("'a\tb'", "a\tb"), ("'from'", "from"), ("'!~\\\"'", "!~\\\""), ("' '", " "),
        ):
            self.assertEqual(tokens(text), [("text", value, 0)], repr(text))

    def test_two_texts(self):
        self.assertEqual(tokens("'a' 'b'"), [("text", "a", 0), ("text", "b", 4)])

    def test_signs(self):
        for sign in ("<=", ">=", "!=", "(", ")", ";", ",", ".", "<", ">", "=", "+", "-", "*"):
            self.assertEqual(tokens(sign), [("sign", sign, 0)])

    def test_longer_signs_come_first(self):
        self.assertEqual([value for _, value, _ in tokens("<==")], ["<=", "="])
        self.assertEqual([value for _, value, _ in tokens("<>=>")], ["<", ">=", ">"])
        self.assertEqual([value for _, value, _ in tokens("=!=<")], ["=", "!=", "<"])
        self.assertEqual([value for _, value, _ in tokens("= =< =")], ["=", "=", "<", "="])

    def test_side_by_side(self):
        self.assertEqual(tokens("a'b'"), [("word", "a", 0), ("text", "b", 1)])
        self.assertEqual(tokens("'b'a"), [("text", "b", 0), ("word", "a", 3)])
        self.assertEqual(tokens("12a"), [("number", 12, 0), ("word", "a", 2)])
        self.assertEqual(tokens("1'b'2"), [("number", 1, 0), ("text", "b", 1), ("number", 2, 4)])
        self.assertEqual(tokens("a.b"), [("word", "a", 0), ("sign", ".", 1), ("word", "b", 2)])
        self.assertEqual(tokens("--1"), [("sign", "-", 0), ("sign", "-", 1), ("number", 1, 2)])
        self.assertEqual(tokens("a<=b"), [("word", "a", 0), ("sign", "<=", 1), ("word", "b", 3)])

    def test_what_stands_between_tokens(self):
        source = " a\tb\nc #d\n# e\n\n 1#x"
        found = [("word", "a", 1), ("word", "b", 3), ("word", "c", 5), ("number", 1, 16)]
        self.assertEqual(tokens(source), found)

    def test_a_comment_ends_with_its_line(self):
        self.assertEqual(tokens("a#b\nc"), [("word", "a", 0), ("word", "c", 4)])
        self.assertEqual(tokens("#'\n'#'"), [("text", "#", 3)])

    def test_the_length_of_words(self):
        self.assertEqual(tokens("a" * 20), [("word", "a" * 20, 0)])
        self.assertEqual(tokens("_" + "9" * 19), [("word", "_" + "9" * 19, 0)])
        self.unknown("~" + "a" * 21)
        self.unknown("x ~" + "_" + "9" * 20)

    def test_the_length_of_numbers(self):
        self.assertEqual(tokens("0" * 14 + "7"), [("number", 7, 0)])
        self.unknown("~" + "0" * 15 + "7")
        self.unknown("x\n ~" + "1" * 16)

    def test_the_length_of_texts(self):
        for inside in ("a" * 100, "''" * 100, "a" * 99 + "''"):
            source = f"'{inside}'"
            self.assertEqual(tokens(source), [("text", inside.replace("''", "'"), 0)])
        for inside in ("a" * 101, "''" * 101, "a" * 100 + "''"):
            self.unknown(f"a ~'{inside}'")

    def test_texts_without_an_end(self):
        for source in ("~'", "~'a", "a ~'b''", "~'''", "x = ~'a # b", "1 ~'a\nb'", "~'\n'"):
            self.unknown(source)

    def test_strange_signs(self):
        for sign in "!/\\\"$&:?@[]^`{|}":
            self.unknown("a ~" + sign)
            self.unknown("~" + sign + "a")
        self.unknown("a ~! = b")
        self.unknown("a ~!<= b")
        self.refused(tokens, "a ~ b", 1, 3, "unknown character")

    def test_the_first_place_that_cannot_be_read(self):
        self.unknown("a\n  ~! 'a")
        self.unknown("'a\tb' ~? !")

    def test_before_all_other_errors(self):
        for read in (parse_source, parse_query, parse_item):
            self.refused_at(read, ") from\n table ~!", "unknown character")
            self.refused_at(read, "from from ( ~'", "unknown character")
            self.refused_at(read, "1 " * 3 + "~" + "7" * 16, "unknown character")

    def test_the_list_is_new(self):
        first = tokens("a b")
        first.clear()
        self.assertEqual(len(tokens("a b")), 2)


class Places(unittest.TestCase):
    def test_the_example(self):
        self.assertEqual(place("a\nbc", 3), (2, 2))

    def test_the_empty_source(self):
        self.assertEqual(place("", 0), (1, 1))

    def test_each_place_of_a_source(self):
        source = "ab\n\n\tc\n"
        found = [place(source, offset) for offset in range(len(source) + 1)]
        self.assertEqual(found, [(1, 1), (1, 2), (1, 3), (2, 1), (3, 1), (3, 2), (3, 3), (4, 1)])

    def test_the_end_without_a_newline(self):
        self.assertEqual(place("a\nbc", 4), (2, 3))
        self.assertEqual(place("abc", 3), (1, 4))

    def test_newlines_alone(self):
        self.assertEqual([place("\n\n", offset) for offset in range(3)], [(1, 1), (2, 1), (3, 1)])


if __name__ == "__main__":
    unittest.main()
