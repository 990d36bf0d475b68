"""Values, matching, expressions and tests, as the calls show them."""

import unittest

from orderedrules.patterns import facts_in
from tests.helper import as_bytes, ask


def term(parts):
    """A term of depth 4 at most with this many parts, from 4 to 40."""
    rows = []
    left = parts - 1
    while left > 0:
        size = min(left if left < 13 else left // 2, 13)
        rows.append(inner(size))
        left -= size
    return "t(" + ", ".join(rows) + ")"


def inner(parts):
    """A term with this many parts, from 1 to 13."""
    children = []
    left = parts - 1
    while left > 0:
        size = min(left, 4)
        children.append("b" if size == 1 else "b(" + ", ".join(["0"] * (size - 1)) + ")")
        left -= size
    return "i(" + ", ".join(children) + ")" if children else "i"


def nested(depth):
    return "a(" * (depth - 1) + "1" + ")" * (depth - 1)


class ValueTexts(unittest.TestCase):
    def tells(self, text, expected):
        for name in ("tell", "begin", "tellall"):
            self.assertEqual(ask(("program", ""), (name, text))[-1][0], 0 if expected else -4, (name, text))

    def test_facts(self):
        for text in ("a", " a ", "a(1)", "a(-1, - 2,b)", "a(b(c(d(e(1)))))", "rules", "a(-0)", "aB1(0)", "a\n(\n1 )"):
            self.tells(text, True)

    def test_what_is_no_fact(self):
        for text in ("", " ", "1", "-1", "X", "a(X)", "a(b(X))", "a()", "a(1", "a(1))", "a(1,2,3,4)", "a(1,)", "(a)",
                     "a(1+1)", "a(-(1))", "a(- -1)", "-a", "a b", "a;", "rule", "a(if)", "!", "a(1234567890)",
                     "abcdefghijk", "a(<)", ",", "a,", ",a", "a,,b"):
            self.tells(text, False)

    def test_tell_and_begin_take_one_value_alone(self):
        for name in ("tell", "begin"):
            self.assertEqual(ask(("program", ""), (name, "a,b"))[-1], [-4])

    def test_parts(self):
        for parts in (4, 19, 20):
            self.assertEqual(term(parts).count("(") + term(parts).count(",") + 1, parts)
            self.tells(term(parts), True)
        for parts in (21, 22, 30):
            self.assertEqual(term(parts).count("(") + term(parts).count(",") + 1, parts)
            self.tells(term(parts), False)

    def test_depth(self):
        self.tells(nested(6), True)
        self.tells(nested(6).replace("1", "c"), True)
        self.tells(nested(7), False)
        self.tells(nested(7).replace("1", "c"), False)
        self.tells("f(0, 0, " + nested(5) + ")", True)
        self.tells("f(0, 0, " + nested(6) + ")", False)

    def test_very_deep_texts(self):
        for depth in (21, 22, 23, 1000):
            self.tells(nested(depth), False)
            self.tells("a(" * depth, False)

    def test_the_greatest_names_and_numbers(self):
        self.tells("abcdefghij(999999999, -999999999, 000000000)", True)
        self.tells("abcdefghijk", False)
        self.tells("a(0000000000)", False)

    def test_minus_zero_is_zero(self):
        self.assertEqual(facts_in(as_bytes("a(-0)")), facts_in(as_bytes("a(0)")))


class Matching(unittest.TestCase):
    def fits(self, head, fact, expected=True):
        program = "rule r { take " + head + "; }"
        self.assertEqual(ask(("program", program), ("tell", fact))[-1][:3], [0, 0, int(expected)], (head, fact))

    def test_terms(self):
        for head, fact, expected in (
                ("a", "a", True), ("a", "b", False), ("a", "a(1)", False), ("a(X)", "a", False), ("a(1)", "a(1)", True),
                ("a(1)", "a(2)", False), ("a(-1)", "a(1)", False), ("a(-1)", "a(-1)", True), ("a(-0)", "a(0)", True),
                ("a(X)", "a(1, 2)", False), ("a(b)", "a(1)", False), ("a(1)", "a(b)", False), ("a(07)", "a(7)", True),
                ("a(b(X), 2)", "a(b(1), 2)", True), ("a(b(X), 2)", "a(b(1), 3)", False), ("aB", "ab", False)):
            self.fits(head, fact, expected)

    def test_unknowns(self):
        for head, fact, expected in (
                ("a(X)", "a(1)", True), ("a(X)", "a(b(c(1), 2))", True), ("a(X, X)", "a(1, 1)", True),
                ("a(X, X)", "a(1, 2)", False), ("a(X, Y)", "a(1, 2)", True), ("a(X, b(X))", "a(b(1), b(b(1)))", True),
                ("a(X, b(X))", "a(b(1), b(b(2)))", False), ("a(b(X), X, X)", "a(b(0), 0, 0)", True),
                ("a(X, X)", "a(1, b)", False), ("a(X, X)", "a(b, b(1))", False)):
            self.fits(head, fact, expected)

    def test_a_head_larger_than_any_value(self):
        self.fits("a(" * 20 + "X" + ")" * 20, nested(6), False)

    def test_heads_share_their_unknowns(self):
        program = "rule r { keep a(X); take b(X, Y), c(Y); }"
        for fact, deeds in (("c(2)", 1), ("c(1)", 0), ("c(b)", 0)):
            self.assertEqual(ask(("program", program), ("tellall", "a(1), b(1, 2)"), ("tell", fact))[-1][2], deeds)


class Worths(unittest.TestCase):
    def holds(self, test, expected=True, fact="n(7, a(b), 0)"):
        program = "rule r { take n(X, T, Z); if " + test + "; }"
        self.assertEqual(ask(("program", program), ("tell", fact))[-1][:3], [0, 0, int(expected)], test)

    def nothing(self, expression, fact="n(7, a(b), 0)"):
        """Neither the same as itself nor not: so it is worth nothing."""
        self.holds(expression + " = " + expression, False, fact)
        self.holds(expression + " <> 123456", False, fact)
        program = "rule r { take n(X, T, Z); put m(" + expression + "); }"
        self.assertEqual(ask(("program", program), ("tell", fact))[-1][2], 0, expression)

    def test_operators(self):
        for test in ("1 + 2 = 3", "1 - 2 = -1", "3 * 4 = 12", "7 / 2 = 3", "7 % 2 = 1", "X + 1 = 8", "-X = 0 - 7",
                     "- (- 1) = 1", "-0 = 0", "007 = 7", "(((X))) = 7", "(T) = a(b)", "X * Z = 0"):
            self.holds(test)

    def test_division_below_zero(self):
        for test in ("-7 / 2 = -4", "-7 % 2 = 1", "7 % -2 = -1", "7 / -2 = -4", "-7 / -2 = 3", "-7 % -2 = -1", "-8 / 2 = -4",
                     "-8 % 2 = 0", "8 % -2 = 0", "0 / -5 = 0", "0 % -5 = 0", "1 / 999999999 = 0", "-1 / 999999999 = -1",
                     "-1 % 999999999 = 999999998", "1 % -999999999 = -999999998", "-999999999 / -1 = 999999999"):
            self.holds(test)

    def test_division_by_zero(self):
        for expression in ("1 / 0", "1 % 0", "X / Z", "X % Z", "0 / 0", "0 % 0", "1 / (2 - 2)", "a(1 / 0)"):
            self.nothing(expression)

    def test_operators_go_to_the_left(self):
        for test in ("10 - 3 - 2 = 5", "10 - (3 - 2) = 9", "100 / 10 / 5 = 2", "100 / (10 / 5) = 50", "7 % 4 * 2 = 6",
                     "2 * 7 % 4 = 2", "2 + 3 * 4 = 14", "(2 + 3) * 4 = 20", "1 - -1 = 2", "-2 * -3 = 6", "-7 / 2 * 2 = -8",
                     "-(7 / 2) = -3", "10 - 2 * 3 + 1 = 5", "1 - 2 + 3 = 2"):
            self.holds(test)

    def test_the_ends_of_the_range(self):
        for test in ("999999998 + 1 = 999999999", "-999999998 - 1 = -999999999", "-999999999 <= 0", "33333 * 30000 = 999990000",
                     "999999999 * -1 = -999999999", "111111111 * 9 = 999999999", "-111111111 * 9 = -999999999"):
            self.holds(test)
        for expression in ("999999999 + 1", "-999999999 - 1", "100000 * 10000", "-100000 * 10000", "999999999 * 999999999",
                           "999999999 + 1 - 1", "999999999 - -1", "500000000 * -2"):
            self.nothing(expression)

    def test_terms_are_no_numbers(self):
        for expression in ("a + 1", "1 + a", "-a", "-T", "T * 1", "1 / T", "T % 2", "a - a", "(a) + 1", "b(1 + a)"):
            self.nothing(expression)

    def test_terms(self):
        for test in ("a = a", "a(1 + 1, -X) = a(2, -7)", "a(b) = T", "b(T, X) = b(a(b), 7)", "a <> b", "a <> a(1)",
                     "a(1) <> a(2)", "a <> 1", "1 <> a", "T <> a(c)"):
            self.holds(test)
        for test in ("a = b", "a(1) = a(1, 1)", "a = 1", "7 = T", "T <> a(b)", "a <> a"):
            self.holds(test, False)

    def test_terms_that_are_too_large(self):
        self.holds("f(T) = f(T)", True, "n(1, " + nested(5) + ", 0)")
        self.nothing("f(f(T))", "n(1, " + nested(5) + ", 0)")
        self.holds("f(T, T) <> 1", True, "n(1, p(q(1, 2, 3), q(1, 2, 3)), 0)")
        self.holds("f(T, T, 0) <> 1", True, "n(1, p(q(1, 2, 3), q(1, 2, 3)), 0)")
        self.nothing("f(T, T, f(0))", "n(1, p(q(1, 2, 3), q(1, 2, 3)), 0)")

    def test_twenty_parts_just_are(self):
        self.assertEqual(term(20).count("(") + term(20).count(",") + 1, 20)
        self.holds(term(20) + " = " + term(20))
        self.nothing(term(21))

    def test_order(self):
        for test in ("1 < 2", "1 <= 2", "2 <= 2", "-2 < -1", "-1 <= -1", "1 <> 2"):
            self.holds(test)
        for test in ("2 < 2", "2 < 1", "2 <= 1", "1 <> 1", "-1 < -2", "1 = 2"):
            self.holds(test, False)

    def test_order_asks_for_numbers(self):
        for test in ("a < b", "b < a", "a <= a", "1 < a", "a < 1", "T <= T", "0 <= a"):
            self.holds(test, False)

    def test_all_tests_must_hold(self):
        self.holds("1 = 1, 2 = 2, 3 = 3, 4 = 4")
        self.holds("1 = 1, 2 = 2, 3 = 3, 4 = 5", False)
        self.holds("1 = 2, 2 = 2, 3 = 3, 4 = 4", False)

    def test_long_expressions(self):
        self.holds("0" + "+1" * 700 + " = 700")
        self.holds("0" + "-1" * 700 + " = -700")
        self.holds("1" + "*1" * 700 + " = 1")
        self.holds("(" * 20 + "1" + ")" * 20 + " = 1")
        self.holds("-(" * 20 + "1" + ")" * 20 + " = 1")


if __name__ == "__main__":
    unittest.main()
