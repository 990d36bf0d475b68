"""Forms of patterns, expressions, tests, rules and programs."""

import unittest

from orderedrules.forms import pattern_form, program_form
from orderedrules.patterns import read_patterns
from orderedrules.programs import read_program
from tests.helper import as_bytes


def form_of_program(text):
    return bytes(program_form(read_program(as_bytes(text)))).decode("ascii")


class Forms(unittest.TestCase):
    def put(self, text, expected):
        whole = form_of_program("rule r{keep h(A,B,C);put p(" + text + ");}")
        self.assertEqual(whole, "rule r { keep h(A, B, C); put p(" + expected + "); }\n")

    def test_patterns_and_values(self):
        for text, expected in (("007", "7"), ("-0", "0"), ("- 00", "0"), ("- 012", "-12"), ("X", "X"), ("a", "a"),
                               ("a ( 1,b( -2 ),\nX)", "a(1, b(-2), X)"), ("999999999", "999999999")):
            self.assertEqual(pattern_form(read_patterns(as_bytes(text))[0]), as_bytes(expected))

    def test_atoms(self):
        for text, expected in (("0", "0"), ("007", "7"), ("(A)", "A"), ("((a))", "a"), ("a( A,(B) , 1)", "a(A, B, 1)")):
            self.put(text, expected)

    def test_signed_ones(self):
        for text, expected in (("-1", "-1"), ("- 0", "-0"), ("-(A)", "-A"), ("-(-A)", "-(-A)"), ("-(A*B)", "-(A * B)"),
                               ("-(A+B)", "-(A + B)"), ("-a(1)", "-a(1)"), ("-A*B", "-A * B"), ("A*(-B)", "A * -B"),
                               ("A-(-B)", "A - -B"), ("(-A)+B", "-A + B")):
            self.put(text, expected)

    def test_products(self):
        for text, expected in (("A*B/C%A", "A * B / C % A"), ("(A*B)/C", "A * B / C"), ("A/(B*C)", "A / (B * C)"),
                               ("A%(B/C)", "A % (B / C)"), ("(A+B)*C", "(A + B) * C"), ("A*(B-C)", "A * (B - C)")):
            self.put(text, expected)

    def test_sums(self):
        for text, expected in (("A+B-C", "A + B - C"), ("(A-B)+C", "A - B + C"), ("A-(B+C)", "A - (B + C)"),
                               ("A+(B-C)", "A + (B - C)"), ("(A*B)-(B%C)", "A * B - B % C")):
            self.put(text, expected)

    def test_rules(self):
        for text, expected in (
                ("rule r{keep a;}", "rule r { keep a; }\n"),
                ("rule r{take a,b;}", "rule r { take a, b; }\n"),
                ("rule r{keep a;take b;fail ;}", "rule r { keep a; take b; fail; }\n"),
                ("rule r{keep a(X,- 1);if X=1,X<>2,X<3,X<=4;put b,c(X);}",
                 "rule r { keep a(X, -1); if X = 1, X <> 2, X < 3, X <= 4; put b, c(X); }\n")):
            self.assertEqual(form_of_program(text), expected)

    def test_programs(self):
        self.assertEqual(form_of_program(""), "")
        self.assertEqual(form_of_program("level b 03;rule r{keep a;}level a 0;rule q{keep a;}"),
                         "rule r { keep a; }\nrule q { keep a; }\nlevel b 3;\nlevel a 0;\n")

    def test_a_sum_as_long_as_a_text(self):
        self.put("1" + "+1" * 1400, "1" + " + 1" * 1400)


if __name__ == "__main__":
    unittest.main()
