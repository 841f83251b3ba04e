"""[40], [41], [181], [182]: tokens of texts and of templates."""

import unittest

from ledgerproof.errors import BadValue
from ledgerproof.tokens import filled, split_text
from printed import check_error, check_examples

EXAMPLES = """
>>> from ledgerproof.tokens import filled, split_text
>>> split_text("2of home>=0")
((0, 'number', 2), (1, 'word', 'of'), (4, 'name', 'home'), (8, 'symbol', '>='), (10, 'number', 0), (11, 'end', ''))
>>> split_text("a 007 b")
((0, 'name', 'a'), (2, 'invalid', ''))
>>> filled(("decide ", " of all >= ", ""), ("cash", 0))
((0, 'word', 'decide'), (7, 'name', 'cash'), (12, 'word', 'of'), (15, 'word', 'all'), (19, 'symbol', '>='), (22, 'number', 0), (23, 'end', ''))
>>> filled(("", "", "b"), ("a", 7))
((0, 'name', 'a'), (1, 'number', 7), (2, 'name', 'b'), (3, 'end', ''))
>>> filled(("", ""), ("all",))
raises BadValue(0)
"""

RESERVED = (
    "sectors accounts type to if then each of not and or all none assume claim drop profiles distinguish "
    "conserved obligations evaluate decide bound by statuses core verdict refutes minimize types"
).split()

SYMBOLS = ("(", ")", "+", ",", "-", ":", ";", "=", "[", "]", ">=")


class PrintedTest(unittest.TestCase):
    def test_examples_of_the_interface(self):
        check_examples(self, EXAMPLES, {})


class SplitTest(unittest.TestCase):
    def check(self, text, *tokens):
        self.assertEqual(split_text(text), tokens)

    def check_one(self, text, kind, value):
        self.check(text, (0, kind, value), (len(text), "end", ""))

    def check_invalid(self, text):
        self.check(text, (0, "invalid", ""))

    def test_the_empty_text_and_blanks_alone(self):
        self.check("", (0, "end", ""))
        self.check("  \n ", (4, "end", ""))

    def test_reserved_words(self):
        self.assertEqual(len(RESERVED), 30)
        for word in RESERVED:
            with self.subTest(word):
                self.check_one(word, "word", word)
                self.check_one(word + "x", "name" if len(word) < 12 else "invalid", word + "x")
                self.check_one("q" + word, "name", "q" + word)

    def test_names(self):
        for name in ("a", "z", "home", "al", "alls", "sector", "abcdefghijkl", "mnopqrstuvwx", "y" * 12):
            self.check_one(name, "name", name)

    def test_runs_of_more_than_twelve_letters(self):
        for run in ("a" * 13, "abcdefghijklm", "sectorsaccounts", "z" * 40):
            self.check_invalid(run)

    def test_numbers(self):
        for text in ("0", "1", "9", "10", "99", "100", "1000", "1007", "9999"):
            self.check_one(text, "number", int(text))

    def test_runs_of_digits_that_are_no_numbers(self):
        for run in ("00", "007", "01", "0000", "09999", "10000", "12345", "123456789", "00000"):
            self.check_invalid(run)

    def test_symbols(self):
        for symbol in SYMBOLS:
            self.check_one(symbol, "symbol", symbol)

    def test_greater_alone_is_invalid(self):
        self.check_invalid(">")
        self.check_invalid("> =")
        self.check_invalid(">>=")
        self.check_invalid(">\n=")
        self.check(">==", (0, "symbol", ">="), (2, "symbol", "="), (3, "end", ""))
        self.check("=>", (0, "symbol", "="), (1, "invalid", ""))

    def test_any_other_character_is_invalid(self):
        taken = "abcdefghijklmnopqrstuvwxyz0123456789()+,-:;=[] %"
        others = [chr(code) for code in range(32, 127) if chr(code) not in taken]
        self.assertEqual(len(others), 95 - 48)
        for character in others:
            with self.subTest(character):
                self.check_invalid(character)
                self.check("ab" + character, (0, "name", "ab"), (2, "invalid", ""))

    def test_letters_and_digits_side_by_side(self):
        self.check("2of", (0, "number", 2), (1, "word", "of"), (3, "end", ""))
        self.check("of2", (0, "word", "of"), (2, "number", 2), (3, "end", ""))
        self.check("a0b12", (0, "name", "a"), (1, "number", 0), (2, "name", "b"), (3, "number", 12), (5, "end", ""))
        self.check("ofall", (0, "name", "ofall"), (5, "end", ""))
        self.check("not9999not", (0, "word", "not"), (3, "number", 9999), (7, "word", "not"), (10, "end", ""))

    def test_blanks_divide_runs(self):
        self.check("of all", (0, "word", "of"), (3, "word", "all"), (6, "end", ""))
        self.check("of\nall", (0, "word", "of"), (3, "word", "all"), (6, "end", ""))
        self.check("0 0", (0, "number", 0), (2, "number", 0), (3, "end", ""))
        self.check("a" * 12 + " a", (0, "name", "a" * 12), (13, "name", "a"), (14, "end", ""))

    def test_blanks_before_between_and_behind(self):
        tokens = ((3, "name", "a"), (6, "symbol", "+"), (7, "number", 3), (11, "end", ""))
        self.check(" \n a  +3 \n ", *tokens)
        self.check("\n\n\na\n\n+3\n\n\n", *tokens)

    def test_symbols_need_no_blanks(self):
        expected = tuple((place, "symbol", symbol) for place, symbol in enumerate("()+,-:;=[]"))
        self.check("()+,-:;=[]>=", *expected, (10, "symbol", ">="), (12, "end", ""))

    def test_nothing_is_listed_behind_the_first_invalid_token(self):
        self.check("a ! b ?", (0, "name", "a"), (2, "invalid", ""))
        self.check("a  00000b ?", (0, "name", "a"), (3, "invalid", ""))
        self.check("! 1", (0, "invalid", ""))
        self.check("= > ", (0, "symbol", "="), (2, "invalid", ""))

    def test_a_run_is_invalid_as_a_whole(self):
        self.check("1 " + "a" * 13 + "2", (0, "number", 1), (2, "invalid", ""))
        self.check("of10000of", (0, "word", "of"), (2, "invalid", ""))

    def test_a_long_text(self):
        text = "a+" * 1000
        self.assertEqual(len(split_text(text)), 2001)
        self.assertEqual(split_text(text)[-1], (2000, "end", ""))
        self.assertEqual(split_text(text)[-2], (1999, "symbol", "+"))

    def test_kinds_of_values(self):
        tokens = split_text("a 1")
        self.assertIs(type(tokens), tuple)
        self.assertEqual([type(token) for token in tokens], [tuple] * 3)
        self.assertIs(type(tokens[1][2]), int)


class FilledTest(unittest.TestCase):
    def check(self, texts, values, *tokens):
        self.assertEqual(filled(texts, values), tokens)

    def test_without_values_it_is_the_text(self):
        for text in ("", "decide a of all = 0", " 1 ", "a 00 b"):
            self.assertEqual(filled((text,), ()), split_text(text))

    def test_names_as_values(self):
        for name in ("a", "z" * 12, "home", "sector"):
            self.check(("", ""), (name,), (0, "name", name), (len(name), "end", ""))

    def test_integers_as_values(self):
        for number in (0, 1, 7, 10, 1000, 9999):
            self.check(("", ""), (number,), (0, "number", number), (len(str(number)), "end", ""))

    def test_bad_values(self):
        bad = (*RESERVED, "", "a" * 13, "Home", "A", "a1", "7", "a b", " a", "a ", "a\n", ">=", "+", -1, 10000, -10 ** 30)
        for value in bad:
            with self.subTest(value):
                check_error(self, "BadValue(0)", lambda value=value: filled(("", ""), (value,)))
                check_error(self, "BadValue(2)", lambda value=value: filled(("", "", "", ""), ("a", 0, value)))

    def test_the_first_bad_value_is_told(self):
        check_error(self, "BadValue(1)", lambda: filled(("", "", "", ""), ("a", -1, "of")))
        check_error(self, "BadValue(0)", lambda: filled(("", "", "", ""), (10000, -1, "of")))

    def test_a_bad_value_behind_an_invalid_token(self):
        check_error(self, "BadValue(1)", lambda: filled(("!", "", ""), ("a", "of")))
        check_error(self, "BadValue(0)", lambda: filled(("", "!"), (-1,)))

    def test_values_merge_with_nothing(self):
        self.check(("a", "b"), ("x",), (0, "name", "a"), (1, "name", "x"), (2, "name", "b"), (3, "end", ""))
        self.check(("1", "2"), (3,), (0, "number", 1), (1, "number", 3), (2, "number", 2), (3, "end", ""))
        self.check(("0", ""), (0,), (0, "number", 0), (1, "number", 0), (2, "end", ""))
        self.check(("o", ""), ("f",), (0, "name", "o"), (1, "name", "f"), (2, "end", ""))
        self.check(("", "", ""), (1, 2), (0, "number", 1), (1, "number", 2), (2, "end", ""))
        self.check(("", "", ""), ("a", "ll"), (0, "name", "a"), (1, "name", "ll"), (3, "end", ""))
        long = "a" * 12
        self.check((long, long), (long,), (0, "name", long), (12, "name", long), (24, "name", long), (36, "end", ""))

    def test_each_text_is_divided_by_itself(self):
        self.check((">", "="), ("a",), (0, "invalid", ""))
        self.check(("a>", "="), (5,), (0, "name", "a"), (1, "invalid", ""))

    def test_places_behind_values_of_several_characters(self):
        tokens = (
            (1, "word", "if"), (4, "name", "cash"), (9, "word", "of"), (12, "number", 9999),
            (17, "symbol", ">="), (19, "name", "b"), (22, "end", ""),
        )
        self.check((" if ", " of", " >=", "  "), ("cash", 9999, "b"), *tokens[:3], (11, "number", 9999),
                   (16, "symbol", ">="), (18, "name", "b"), (21, "end", ""))
        self.check((" if ", " of ", " >=", "  "), ("cash", 9999, "b"), *tokens)

    def test_an_invalid_token_is_the_last_one(self):
        self.check(("?", " a", " b"), ("x", "y"), (0, "invalid", ""))
        self.check(("a ", " 00 a", " b"), ("x", "y"), (0, "name", "a"), (2, "name", "x"), (4, "invalid", ""))
        self.check(("", "", "c Z"), ("xyz", 100), (0, "name", "xyz"), (3, "number", 100), (6, "name", "c"),
                   (8, "invalid", ""))
        self.check(("", "A", ""), ("x", 1), (0, "name", "x"), (1, "invalid", ""))

    def test_the_ends_of_the_texts_before_the_last_one_are_left_out(self):
        self.check((" ", "\n", "  "), (1, "a"), (1, "number", 1), (3, "name", "a"), (6, "end", ""))

    def test_other_names_change_nothing_but_the_names(self):
        texts = ("decide 2 ", " of ", " >= 0 ", "")
        first = filled(texts, ("a", "b", 3))
        second = filled(texts, ("elevenlette", "sector", 3))
        self.assertEqual([token[1] for token in first], [token[1] for token in second])
        put = {"a": "elevenlette", "b": "sector"}
        self.assertEqual([put.get(token[2], token[2]) for token in first], [token[2] for token in second])

    def test_many_values(self):
        values = tuple("ab"[k % 2] if k % 3 else k for k in range(25))
        tokens = filled(("+",) * 26, values)
        self.assertEqual(len(tokens), 52)
        self.assertEqual([token[2] for token in tokens[1:-2:2]], list(values))

    def test_an_error_changes_nothing(self):
        texts, values = ("a", "b", "c"), ("x", "of")
        with self.assertRaises(BadValue):
            filled(texts, values)
        self.assertEqual((texts, values), (("a", "b", "c"), ("x", "of")))


if __name__ == "__main__":
    unittest.main()
