"""The faults 3 to 25: texts that have them, and texts that just don't."""

import unittest

from orderedrules.faults import faults_of
from orderedrules.forms import program_form
from orderedrules.programs import read_program
from tests.helper import as_bytes, ask


def row(thing, count):
    return ", ".join([thing] * count)


def heads(kept, taken):
    text = "keep " + row("a", kept) + ";" if kept else ""
    return text + ("take " + row("a", taken) + ";" if taken else "")


class FaultCase(unittest.TestCase):
    def faults(self, text, expected):
        self.assertEqual(faults_of(as_bytes(text)), expected, text)
        self.assertEqual(ask(("program", text))[0][0], -2 if expected else 0, text)

    def fault_at_mark(self, text, *numbers):
        """The text has just these faults where the sign ! stands, which is left out."""
        self.faults(text.replace("!", ""), [(number, text.index("!")) for number in numbers])

    def sound(self, text):
        self.faults(text, [])


class Reading(FaultCase):
    def test_what_is_a_program(self):
        for text in ("", " \n", "level a 1;", "rule a{keep b;}", "rule a{take b;}", "rule a{keep b;take c;fail;}",
                     "rule a{keep b;if 1=1;put c;}", "level a 0; rule a{keep a;} level b 5; rule b{keep a;}",
                     "rule a { keep b(-1, - 02, X), c(a, a(X), 3); if -1 - -X < (2), a <> a(1); put (b), ((c(X))); }"):
            self.sound(text)

    def test_the_first_token_that_cannot_stand(self):
        for text in ("!a", "rule !rule {keep a;}", "rule !A{keep a;}", "rule a !keep b;", "rule a{!a;}", "rule a{keep !;}",
                     "rule a{keep b,!;}", "rule a{keep b !c;}", "rule a{take b;!keep c;}", "rule a{keep b;!keep c;}",
                     "rule a{if 1=1;!take b;}", "rule a{put b;!if 1=1;}", "rule a{put b;!fail;}", "rule a{fail;!put b;}",
                     "rule a{fail !b;}", "rule a{keep b;} !}", "level !1 1;", "level a !b;", "level a !-1;",
                     "level a 1 !rule", "level !keep 1;", "rule a{keep b;}!;"):
            self.fault_at_mark(text, 3)

    def test_tokens_that_cannot_stand_in_patterns(self):
        for pattern in ("-!-1", "-!X", "-!a", "a(!)", "a(1!;", "a(1,!)", "a(1,2,3!,4)", "!(a)", "a(!(1))", "1!(2)",
                        "X!(1)", "a(1)!(2)", "a !+ 1", "!keep", "a(!if)", "a!)"):
            self.fault_at_mark("rule a{keep " + pattern + ";}", 3)

    def test_tokens_that_cannot_stand_in_expressions(self):
        for expression in ("-!-1", "!+1", "1+!*2", "(!)", "a(!)", "a(1,2,3!,4)", "(1!,2)", "1!(2)", "X!(1)", "1 !X",
                           "1+!fail", "(1)!(2)", "1 * -!- 2", "a!)"):
            self.fault_at_mark("rule a{keep b;put " + expression + ";}", 3)
            self.fault_at_mark("rule a{keep b;if " + expression + "=1;}", 3)

    def test_tokens_that_cannot_stand_in_tests(self):
        for test in ("1!", "1=!", "1=2!=3", "!=1", "(1!=2)", "1< !=2", "a!,b=c"):
            self.fault_at_mark("rule a{keep b;if " + test + ";}", 3)

    def test_the_end_where_something_has_to_follow(self):
        whole = "rule a { keep b(1); if 1 = 2; put c; }"
        for end in [whole.index(" ", start) for start in range(1, len(whole) - 2)]:
            self.faults(whole[:end + 1], [(3, end + 1)])
        for text in ("level", "level a", "level a 1", "rule a {keep b;} rule"):
            self.faults(text, [(3, len(text))])

    def test_reading_hides_later_faults(self):
        self.fault_at_mark("rule a{keep X, 1;put Y;} rule a{} level a 9!", 3)


class Brackets(FaultCase):
    def test_in_heads(self):
        self.sound("rule r{keep " + "a(" * 20 + "1" + ")" * 20 + ";}")
        self.fault_at_mark("rule r{keep " + "a(" * 20 + "a!(1" + ")" * 21 + ";}", 4)

    def test_in_expressions(self):
        for part in ("keep b;if 1=", "keep b;if 1<>2,", "keep b;put c,"):
            end = "c" if "put" in part else "1"
            close = "=1;}" if part.endswith("2,") else ";}"
            self.sound("rule r{" + part + "(" * 20 + end + ")" * 20 + close)
            self.fault_at_mark("rule r{" + part + "(" * 20 + "!(" + end + ")" * 21 + close, 4)

    def test_of_both_sorts_together(self):
        self.sound("rule r{keep b;put " + "a((" * 10 + "1" + "))" * 10 + ";}")
        self.fault_at_mark("rule r{keep b;put " + "a((" * 10 + "a!(1)" + "))" * 10 + ";}", 4)

    def test_closed_ones_do_not_count(self):
        deep = "(" * 19 + "(1)+(1)*(2)" + ")" * 19
        self.sound("rule r{keep b;if " + deep + "=" + deep + "," + deep + "<" + deep + ";}")

    def test_those_around_closed_ones_count(self):
        self.sound("rule r{keep b;if " + "(" * 10 + "(1)+(2)+" + "(" * 10 + "1" + ")" * 20 + "=1;}")
        self.fault_at_mark("rule r{keep b;if " + "(" * 10 + "(1)+(2)+" + "(" * 10 + "!(1" + ")" * 21 + "=1;}", 4)

    def test_whichever_comes_first(self):
        self.fault_at_mark("rule r{keep " + "a(" * 20 + "a!(;", 4)
        self.fault_at_mark("rule r{keep " + "a(" * 20 + "!;" + "a(" * 2, 3)
        self.fault_at_mark("rule r{keep " + "a(" * 20 + "!(1);", 3)


class Counts(FaultCase):
    def test_11_a_name_twice(self):
        self.fault_at_mark("rule a{keep b;} rule b{keep b;} rule !a{keep c;}", 11)
        self.sound("rule a{keep b;} rule b{keep b;} rule a1{keep c;}")

    def test_11_each_time(self):
        self.faults("rule a{keep b;}rule a{keep b;}rule a{keep b;}", [(11, 20), (11, 35)])

    def test_12_more_than_12_rules(self):
        rules = ["rule r%d{keep a;}" % number for number in range(14)]
        self.sound("".join(rules[:12]))
        twelve = len("".join(rules[:12]))
        self.faults("".join(rules), [(12, twelve + 5), (12, twelve + len(rules[12]) + 5)])

    def test_13_no_heads(self):
        for body in ("", "if 1=1;", "put a;", "fail;"):
            self.fault_at_mark("rule !a{" + body + "}", 13)

    def test_14_more_than_3_heads(self):
        for kept, taken in ((4, 0), (0, 4), (2, 2), (3, 1)):
            self.fault_at_mark("rule !a{" + heads(kept, taken) + "}", 14)
        for kept, taken in ((3, 0), (0, 3), (2, 1), (1, 2)):
            self.sound("rule a{" + heads(kept, taken) + "}")

    def test_15_more_than_4_tests(self):
        self.sound("rule a{keep b;if " + row("1=1", 4) + ";}")
        self.fault_at_mark("rule !a{keep b;if " + row("1=1", 5) + ";}", 15)

    def test_16_more_than_4_puts(self):
        self.sound("rule a{keep b;put " + row("c", 4) + ";}")
        self.fault_at_mark("rule !a{keep b;put " + row("c", 5) + ";}", 16)

    def test_several_at_one_place(self):
        self.fault_at_mark("rule a{keep b;}rule !a{if " + row("1=1", 5) + ";put " + row("c", 5) + ";}", 11, 13, 15, 16)


class Terms(FaultCase):
    def test_17_a_head_that_is_no_term(self):
        for head in ("1", "-1", "- 0", "X"):
            self.fault_at_mark("rule a{keep b, !" + head + ";}", 17)
            self.fault_at_mark("rule a{keep b;take !" + head + ", c;}", 17)
        self.sound("rule a{keep b(1, -1, X);}")

    def test_18_a_put_that_is_no_term(self):
        for put in ("1", "-1", "X", "(X)", "((1))", "1+1", "-(a)", "a+b", "a*1", "(a)-b", "(a(1)+1)", "(-a)"):
            self.fault_at_mark("rule a{keep b(X);put c, !" + put + ";}", 18)

    def test_18_brackets_do_not_matter(self):
        for put in ("a", "(a)", "((a))", "a(1)", "((a(1+X)))", "a(-1)"):
            self.sound("rule a{keep b(X);put " + put + ";}")


class Unknowns(FaultCase):
    def test_19_in_no_head(self):
        self.fault_at_mark("rule a{keep b(X);if !Y=1;}", 19)
        self.fault_at_mark("rule a{keep b(X);if X=1+a(2, -!Y);}", 19)
        self.fault_at_mark("rule a{keep b(X);put c(a(!Y));}", 19)
        self.faults("rule a{keep b;if Y=Y;put c(Y);}", [(19, 17), (19, 19), (19, 27)])

    def test_19_of_another_rule(self):
        self.fault_at_mark("rule a{keep b(X);} rule b{keep b(Y);put c(!X);}", 19)

    def test_19_any_head_is_enough(self):
        self.sound("rule a{keep b(a(a(X)));take c(Y), d(Z);if X=Y;put e(X, Y, Z);}")

    def test_in_the_order_of_places(self):
        self.faults("rule a{keep X;put Y;}rule a{}level b 6;", [(17, 12), (18, 18), (19, 18), (11, 26), (13, 26), (21, 37)])


class Levels(FaultCase):
    def test_21_a_number_above_5(self):
        self.sound("level a 0;level b 5;level c 000000005;")
        self.fault_at_mark("level a !6;", 21)
        self.fault_at_mark("level a !999999999;", 21)

    def test_22_a_word_twice(self):
        self.fault_at_mark("level a 1;rule a{keep a;}level !a 1;", 22)
        self.sound("level a 1;rule a{keep a;}level b 1;")

    def test_23_more_than_12(self):
        levels = ["level a%d 1;" % number for number in range(10, 24)]
        self.sound("".join(levels[:12]))
        self.faults("".join(levels), [(23, 12 * 12 + 6), (23, 13 * 12 + 6)])

    def test_several(self):
        twelve = "".join("level a%d 1;" % number for number in range(12))
        self.faults(twelve + "level a1 6;", [(22, len(twelve) + 6), (23, len(twelve) + 6), (21, len(twelve) + 9)])


def long_form(length):
    """A text, shorter than its form, whose form has this many bytes."""
    for name in ("r", "rr", "rrr", "rrrr"):
        rest = length - len("rule " + name + " { keep a; if 1 = 1; }\n")
        if rest % 4 == 0:
            return "rule " + name + "{keep a;if 1=1" + "+1" * (rest // 4) + ";}"


class LongForms(FaultCase):
    def test_25_a_form_of_more_than_3000_bytes(self):
        for length in (2999, 3000, 3001, 3002, 3500):
            text = long_form(length)
            self.assertLess(len(text), 2000)
            self.assertEqual(len(program_form(read_program(as_bytes(text)))), length)
            self.faults(text, [(25, len(text))] if length > 3000 else [])

    def test_25_only_where_there_is_no_other(self):
        self.fault_at_mark(long_form(3100) + "level a !6;", 21)


if __name__ == "__main__":
    unittest.main()
