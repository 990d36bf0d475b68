"""How texts are cut into tokens, and the faults 1 and 2."""

import unittest

from orderedrules.faults import faults_of
from orderedrules.tokens import cut
from tests.helper import as_bytes


def kinds(text):
    return [(kind, detail) for kind, detail, place in cut(as_bytes(text))[:-1]]


class Tokens(unittest.TestCase):
    def test_names_and_numbers(self):
        self.assertEqual(kinds("aB1 Ab1 007"), [("word", "aB1"), ("unknown", "Ab1"), ("number", 7)])

    def test_a_number_ends_ahead_of_a_letter(self):
        self.assertEqual(kinds("12ab"), [("number", 12), ("word", "ab")])

    def test_all_letters_and_digits(self):
        for text in ("abcdefghij", "klmnopqrst", "uvwxyzABCD", "eEFGHIJKLM", "nNOPQRSTUV", "wWXYZ01234", "x56789"):
            self.assertEqual(kinds(text), [("word", text)])

    def test_reserved_words_are_told_apart(self):
        for word in ("rule", "keep", "take", "if", "put", "fail", "level"):
            self.assertEqual(kinds(word), [(word, None)])
            self.assertEqual(kinds(word + "s"), [("word", word + "s")])
            self.assertEqual(kinds(word.capitalize()), [("unknown", word.capitalize())])

    def test_signs(self):
        self.assertEqual([kind for kind, detail in kinds("(){},;+-*/%=<")], list("(){},;+-*/") + ["mod", "=", "<"])

    def test_signs_of_two_bytes(self):
        self.assertEqual([kind for kind, detail in kinds("<=<><<= = <")], ["<=", "<>", "<", "<=", "=", "<"])

    def test_places_and_end(self):
        places = [place for kind, detail, place in cut(as_bytes(" a\n( <= 12 "))]
        self.assertEqual(places, [1, 3, 5, 8, 11])
        self.assertEqual(cut([]), [("end", None, 0)])


class TokenFaults(unittest.TestCase):
    def test_no_token_begins(self):
        for byte in [*range(0, 10), *range(11, 32), *map(ord, "!\"#$&'.:>?@[\\]^_`|~"), *range(127, 256)]:
            self.assertEqual(faults_of([32, byte]), [(1, 1)], byte)

    def test_blanks_are_no_fault(self):
        self.assertEqual(faults_of([32, 10, 32, 10]), [])

    def test_the_greatest_lengths(self):
        for longest in ("a123456789", "A123456789", "000000001"):
            self.assertEqual(faults_of(as_bytes("  " + longest)), [(3, 2)])
            self.assertEqual(faults_of(as_bytes("  " + longest + "0")), [(2, 2)])

    def test_the_first_one_is_the_only_one(self):
        self.assertEqual(faults_of(as_bytes("} ! a1234567890")), [(1, 2)])
        self.assertEqual(faults_of(as_bytes("} a1234567890 !")), [(2, 2)])

    def test_greater_alone_is_no_sign(self):
        self.assertEqual(faults_of(as_bytes("rule a { keep b; if 1 > 2; }")), [(1, 22)])


if __name__ == "__main__":
    unittest.main()
