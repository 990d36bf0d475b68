"""The promises 8 to 10: pile, next, bag, fact, deeds, log, status."""

import itertools
import unittest

from tests.helper import CLASH, COUNT, EUCLID, as_bytes, ask, ask_last

# The fact go makes a deed of each pair of facts that are there, and of each fact alone.
PAIRS = "rule two { keep a(X), a(Y), go; } rule one { keep a(X), go; }"
FAR = (-1, 10 ** 18, -10 ** 18)
HUGE = (20, 300, 999999999)

QUESTIONS = [("pile",), ("next", 0, 0, 0), ("bag",), ("fact", 0), ("deeds",), ("log",), ("status",)]


def term(*given):
    return "abcdefghiJ(" + ", ".join(given) + ")"


def greatest():
    """A value with 20 parts of 10 bytes each, at the depth 6."""
    least = "-999999999"
    value = term(least, least, least)
    for more in range(3):
        value = term(value, least, least)
    return term(value, term(least, least, least), term(least))


GREATEST = greatest()


def facts(count):
    return ", ".join("a(%d)" % number for number in range(count))


def flat(rows):
    return list(itertools.chain(*rows))


def in_bag(*numbered):
    """The answer of bag for facts such as (0, "a(1)")."""
    return [0] + flat([number, len(form), *as_bytes(form)] for number, form in numbered)


class Examples(unittest.TestCase):
    def test_euclid(self):
        found = ask(("program", EUCLID), ("tell", "g(6)"), ("tell", "g(4)"), ("bag",), ("log",), ("status",))
        self.assertEqual(found, [
            [0, 2], [0, 0, 0, 6], [0, 1, 4, 16], [0, 3, 4, 103, 40, 50, 41],
            [0, 0, 0, 0, 1, 1, 0, 2, 1, 0, 1, 0, 2, 2, 1, 1, 0, 2, 3, 2, 1, 1, 1, 4], [0, 1, 5, 6, 0, 0, 0]])

    def test_clash(self):
        found = ask(("program", CLASH), ("tell", "p(1)"), ("tell", "q(2)"), ("tell", "q(1)"), ("status",),
                    ("begin", "q(1)"), ("steps", 100), ("status",), ("bag",), ("log",), ("pile",), ("step",),
                    ("quit",), ("status",), ("bag",), ("log",))
        two = [0, 0, 4, 112, 40, 49, 41, 1, 4, 113, 40, 50, 41]
        self.assertEqual(found, [
            [0, 1], [0, 0, 0, 4], [0, 1, 0, 4], [-15], [0, 2, 2, 2, 0, 0, 0], [0, 2], [0, 2, 1, 2],
            [0, 3, 3, 4, 0, 1, 1], two + [2, 4, 113, 40, 49, 41], [0, 0, 0, 0, 1, 0, 2, 1, 0, 2, 0, 2], [0, 0], [-5],
            [0], [0, 2, 2, 2, 0, 0, 0], two, [0, 0, 0, 0, 1]])


class Promise8Pile(unittest.TestCase):
    def test_no_task(self):
        self.assertEqual(ask(("program", COUNT), ("pile",), ("tell", "a(3)"), ("pile",))[1::2], [[0, 0], [0, 0]])

    def test_each_task_of_a_run(self):
        program = "rule s { take s; put p(1), p(2); }"
        found = ask(("program", program), ("tell", "x"), ("begin", "s"), ("pile",), *[("step",), ("pile",)] * 8)
        below = [3, 0, 0, 1, 0, 0]
        self.assertEqual(found[3::2], [
            [0, 1, 1, 0, 0],
            [0, 3, 2, 0, 0] + below, [0, 3, 2, 0, 1] + below, [0, 3, 2, 1, 0] + below, [0, 2] + below,
            [0, 2, 3, 0, 1, 1, 0, 0], [0, 2, 3, 1, 0, 1, 0, 0], [0, 1, 1, 0, 0], [0, 0]])
        self.assertEqual(found[4::2], [[0, 4, 0, 1, 1], [0, 1], [0, 2], [0, 3], [0, 1], [0, 2], [0, 3], [0, 0]])

    def test_a_head_behind_the_last(self):
        calls = [("program", "rule r { keep a, b, c; } rule s { keep d; }"), ("begin", "x"), ("steps", 3), ("pile",)]
        self.assertEqual(ask_last(*calls), [0, 1, 0, 0, 3])
        self.assertEqual(ask_last(*calls, ("step",), ("pile",)), [0, 1, 0, 1, 0])

    def test_the_first_that_came_is_topmost(self):
        calls = [("program", "rule r { keep a; put b, c, d, e; } rule s { keep b; put f, g; }"), ("begin", "a"), ("steps", 4)]
        tasks = [(5, 0, 0), (6, 0, 0), (1, 1, 0), (2, 0, 0), (3, 0, 0), (4, 0, 0), (0, 0, 0)]
        self.assertEqual(ask_last(*calls, ("pile",)), [0, 7] + flat(tasks))

    def test_a_bag_that_has_failed_has_no_task(self):
        calls = [("program", CLASH), ("tell", "p(1)"), ("begin", "q(1)"), ("step",)]
        self.assertEqual(ask_last(*calls, ("pile",)), [0, 1, 1, 0, 1])
        self.assertEqual(ask_last(*calls, ("step",), ("pile",)), [0, 0])

    def test_a_step_that_cannot_be_done_leaves_the_task(self):
        calls = [("program", COUNT), ("begin", "a(200)"), ("steps", 20000), ("pile",), ("step",), ("pile",)]
        tasks = [0, 200] + flat([number, 0, 0] for number in reversed(range(200)))
        self.assertEqual(ask(*calls)[3:], [tasks, [-7], tasks])

    def test_behind_quit_and_a_new_program(self):
        for end in (("quit",), ("program", COUNT)):
            self.assertEqual(ask_last(("program", EUCLID), ("begin", "g(1)"), end, ("pile",)), [0, 0])

    def test_behind_refused_calls(self):
        calls = [("program", CLASH), ("tell", "p(1)"), ("tell", "q(1)"), ("pile",), ("begin", "b"), ("tell", "c"),
                 ("program", "!"), ("pile",)]
        self.assertEqual(ask(*calls)[3::4], [[0, 0], [0, 1, 1, 0, 0]])


class Promise9Next(unittest.TestCase):
    ORDER = [("program", "rule none { keep x, x; } rule r { keep k(X), k(Y); take t; if X <> 2; }"),
             ("tellall", "k(1), k(2), k(3), k(4)"), ("begin", "t")]

    def test_the_first_in_order(self):
        for fact, head, row in ((4, 2, [0, 1, 4]), (0, 0, [0, 1, 4]), (2, 0, [2, 0, 4]), (3, 0, [3, 0, 4]),
                                (0, 1, [2, 0, 4]), (1, 1, [0, 1, 4]), (2, 1, [0, 2, 4]), (3, 1, [0, 3, 4])):
            self.assertEqual(ask_last(*self.ORDER, ("next", fact, 1, head)), [0, 1, 3] + row)

    def test_there_is_none(self):
        for fact, number, head in ((1, 1, 0), (4, 1, 0), (4, 1, 1), (0, 1, 2), (0, 0, 0), (4, 0, 1)):
            self.assertEqual(ask_last(*self.ORDER, ("next", fact, number, head)), [1])

    def test_there_is_none_when_no_run_is_on_its_way(self):
        told = [("program", EUCLID), ("tellall", "g(6), g(4), x")]
        for fact in (3, 5):
            for number, head in ((0, 0), (0, 1), (1, 0)):
                self.assertEqual(ask_last(*told, ("next", fact, number, head)), [1])

    def test_in_the_order_of_numbers_not_of_their_digits(self):
        calls = [("program", PAIRS), ("tellall", facts(15)), ("begin", "go")]
        self.assertEqual(ask_last(*calls, ("next", 10, 0, 1)), [0, 0, 3, 0, 10, 15])
        self.assertEqual(ask_last(*calls, ("next", 10, 0, 0)), [0, 0, 3, 10, 0, 15])
        self.assertEqual(ask_last(*calls, ("next", 0, 0, 1)), [0, 0, 3, 1, 0, 15])
        many = [("program", "rule r { keep a(X), go; if 2 <> X, X < 11, 1 < X, X <> 3; }"), ("tellall", facts(11)), ("begin", "go")]
        self.assertEqual(ask_last(*many, ("next", 11, 0, 1)), [0, 0, 2, 4, 11])

    def test_a_fact_that_could_stand_for_two_heads(self):
        program = ("program", "rule r { keep a(X), a(X); }")
        alone = [program, ("begin", "a(1)")]
        self.assertEqual(ask(*alone, ("next", 0, 0, 0), ("next", 0, 0, 1))[2:], [[1], [1]])
        both = [program, ("tell", "a(1)"), ("begin", "a(1)")]
        self.assertEqual(ask(*both, ("next", 1, 0, 0), ("next", 1, 0, 1), ("next", 0, 0, 0), ("next", 0, 0, 1))[3:],
                         [[0, 0, 2, 1, 0], [0, 0, 2, 0, 1], [0, 0, 2, 0, 1], [0, 0, 2, 1, 0]])

    def test_a_remembered_deed(self):
        calls = [("program", "rule r { keep k(X), t; }"), ("tellall", "k(1), k(2)"), ("begin", "t"), ("step",)]
        asked = [("next", 2, 0, 1), ("next", 0, 0, 0), ("next", 1, 0, 0)]
        self.assertEqual(ask(*calls, *asked)[3:], [[0, 1], [0, 0, 2, 0, 2], [0, 0, 2, 0, 2], [0, 0, 2, 1, 2]])
        self.assertEqual(ask(*calls, ("step",), *asked)[4:], [[0, 4, 0, 2, 0, 2], [0, 0, 2, 1, 2], [1], [0, 0, 2, 1, 2]])
        self.assertEqual(ask(*calls, ("step",), ("step",), *asked)[5:], [[0, 4, 0, 2, 1, 2], [1], [1], [1]])

    def test_it_says_the_deed_of_the_next_step(self):
        calls = [("program", EUCLID), ("tell", "g(6)"), ("begin", "g(4)")]
        self.assertEqual(ask(*calls, ("next", 1, 0, 0), ("step",))[3:], [[0, 0, 2, 1, 0], [0, 4, 0, 2, 1, 0]])

    def test_a_deed_that_is_too_much_can_be_done_all_the_same(self):
        calls = [("program", "rule r { take a; put b, b; }"), ("tellall", "x" + ", x" * 14), ("begin", "a")]
        self.assertEqual(ask(*calls, ("next", 15, 0, 0), ("deeds",), ("step",))[3:], [[0, 0, 1, 15], [0, 1, 0, 1, 15], [-6]])

    def test_a_full_log_does_not_matter(self):
        calls = [("program", COUNT), ("begin", "a(200)"), ("steps", 20000), ("next", 199, 0, 0), ("deeds",)]
        self.assertEqual(ask(*calls)[3:], [[0, 0, 1, 199], [0, 1, 0, 1, 199]])

    def test_a_put_worth_nothing(self):
        calls = [("program", "rule r { keep a(X), b; put c(6 / X); }"), ("tellall", "a(0), a(2)"), ("begin", "b")]
        self.assertEqual(ask(*calls, ("next", 2, 0, 1), ("next", 0, 0, 0))[3:], [[0, 0, 2, 1, 2], [1]])

    def test_a_rule_that_fails(self):
        calls = [("program", CLASH), ("tell", "p(1)"), ("begin", "q(1)"), ("next", 1, 0, 1), ("steps", 9)]
        self.assertEqual(ask(*calls)[3:], [[0, 0, 2, 0, 1], [0, 2, 1, 2]])

    def test_a_bag_that_has_failed(self):
        program = "rule other { keep p(X), q(Y); if 5 < Y; } rule no { keep p(X), q(X); fail; } rule late { keep q(X); }"
        calls = [("program", program), ("tell", "p(1)"), ("begin", "q(1)")]
        asked = [("next", 1, 1, 1), ("next", 0, 1, 0), ("next", 1, 2, 0), ("next", 2, 2, 0), ("next", 0, 3, 0), ("next", 0, 2, 1)]
        self.assertEqual(ask(*calls, *asked)[3:], [[0, 1, 2, 0, 1], [0, 1, 2, 0, 1], [0, 2, 1, 1], [-8], [-9], [-20]])
        self.assertEqual(ask(*calls, ("steps", 20000), *asked)[4:], [[1], [1], [1], [-8], [-9], [-20]])

    def test_what_is_no_living_fact(self):
        for fact in FAR + HUGE + (5, 6):
            self.assertEqual(ask_last(*self.ORDER, ("next", fact, 1, 0)), [-8])
        gone = [("program", EUCLID), ("tellall", "g(6), g(4)")]
        self.assertEqual([ask_last(*gone, ("next", fact, 0, 0)) for fact in range(-1, 6)],
                         [[-8], [-8], [-8], [-8], [1], [-8], [-8]])

    def test_what_is_no_rule(self):
        for number in FAR + HUGE + (2, 3, -2):
            self.assertEqual(ask_last(*self.ORDER, ("next", 0, number, 0)), [-9])
        self.assertEqual(ask_last(("program", ""), ("tell", "a"), ("next", 0, 0, 0)), [-9])

    def test_what_is_no_head(self):
        for head in FAR + HUGE + (3, 4, -2, -3):
            self.assertEqual(ask_last(*self.ORDER, ("next", 0, 1, head)), [-20])
        self.assertEqual(ask_last(*self.ORDER, ("next", 0, 0, 2)), [-20])
        self.assertEqual(ask_last(*self.ORDER, ("next", 0, 1, 2)), [1])

    def test_order_of_refusals(self):
        self.assertEqual(ask(("next", -1, -1, -1), ("program", ""), ("next", -1, -1, -1)), [[-3], [0, 0], [-8]])
        self.assertEqual(ask_last(*self.ORDER, ("next", 5, 2, 3)), [-8])
        self.assertEqual(ask_last(*self.ORDER, ("next", 5, 1, 3)), [-8])
        self.assertEqual(ask_last(*self.ORDER, ("next", 5, 2, 0)), [-8])
        self.assertEqual(ask_last(*self.ORDER, ("next", 4, 2, 3)), [-9])
        self.assertEqual(ask_last(*self.ORDER, ("next", 4, 1, 3)), [-20])

    def test_behind_quit_and_a_new_program(self):
        self.assertEqual(ask_last(*self.ORDER, ("quit",), ("next", 4, 1, 2)), [-8])
        self.assertEqual(ask_last(*self.ORDER, ("quit",), ("next", 0, 1, 0)), [1])
        self.assertEqual(ask_last(*self.ORDER, self.ORDER[0], ("next", 0, 1, 0)), [-8])


class Promise10Bag(unittest.TestCase):
    def test_none(self):
        self.assertEqual(ask(("program", EUCLID), ("bag",), ("tell", "g(0)"), ("bag",))[1::2], [[0], [0]])

    def test_the_living_by_rising_numbers(self):
        calls = [("program", "rule r { take c(X); put d, d; }"), ("tellall", "a, c(1), b, c(2), a")]
        self.assertEqual(ask_last(*calls, ("bag",)),
                         in_bag((0, "a"), (2, "d"), (3, "d"), (4, "b"), (6, "d"), (7, "d"), (8, "a")))

    def test_sixteen(self):
        calls = [("program", ""), ("tellall", "x" + ", x" * 15), ("bag",)]
        self.assertEqual(ask_last(*calls), [0] + flat([number, 1, 120] for number in range(16)))

    def test_forms(self):
        for text, form in (("f( - 007 ,aB1(0),-0)", "f(-7, aB1(0), 0)"), ("a", "a"), (" a\n( b ( c,1 ) )", "a(b(c, 1))"),
                           ("a(999999999, -999999999, 000)", "a(999999999, -999999999, 0)"), (GREATEST, GREATEST)):
            self.assertEqual(ask(("program", ""), ("tell", text), ("bag",), ("fact", 0))[2:],
                             [in_bag((0, form)), [0, 1, *as_bytes(form)]])

    def test_forms_of_what_was_put(self):
        calls = [("program", "rule r { take a(X, Y); put b(X - Y, X % Y, c(-X)), c(Y, X); }"), ("tell", "a(-7, 2)"), ("bag",)]
        self.assertEqual(ask_last(*calls), in_bag((1, "b(-9, 1, c(7))"), (2, "c(2, -7)")))
        calls = [("program", "rule r { take a(X); put b(X / 2); }"), ("tell", "a(-7)"), ("bag",)]
        self.assertEqual(ask_last(*calls), in_bag((1, "b(-4)")))

    def test_sixteen_of_the_greatest_size(self):
        self.assertEqual(len(GREATEST), 238)
        found = ask(("program", ""), *[("tell", GREATEST)] * 16, ("bag",))
        self.assertEqual(found[-1], in_bag(*[(number, GREATEST) for number in range(16)]))
        self.assertEqual(len(found[-1]), 3841)

    def test_just_above_the_greatest_size(self):
        self.assertEqual(ask_last(("program", ""), ("tell", GREATEST[:-2] + ", 1))")), [-4])
        self.assertEqual(ask_last(("program", ""), ("tell", "a(" * 5 + "1" + ")" * 5), ("bag",)), in_bag((0, "a(a(a(a(a(1)))))")))
        self.assertEqual(ask_last(("program", ""), ("tell", "a(" * 6 + "1" + ")" * 6), ("bag",)), [0])

    def test_in_a_run_and_behind_it(self):
        calls = [("program", EUCLID), ("tell", "g(6)"), ("begin", "g(4)"), ("bag",), ("step",), ("bag",), ("tell", "x"), ("bag",),
                 ("quit",), ("bag",), ("program", "!"), ("bag",), ("program", ""), ("bag",)]
        self.assertEqual(ask(*calls)[3::2], [
            in_bag((0, "g(6)"), (1, "g(4)")), in_bag((1, "g(4)"), (2, "g(2)")), in_bag((1, "g(4)"), (2, "g(2)")),
            in_bag((0, "g(6)")), in_bag((0, "g(6)")), [0]])


class Promise10Fact(unittest.TestCase):
    def test_living_and_gone(self):
        calls = [("program", EUCLID), ("tellall", "g(6), g(4)")]
        forms = ((0, "g(6)"), (0, "g(4)"), (0, "g(2)"), (1, "g(2)"), (0, "g(0)"))
        for number, (living, form) in enumerate(forms):
            self.assertEqual(ask_last(*calls, ("fact", number)), [0, living, *as_bytes(form)])

    def test_not_given(self):
        calls = [("program", EUCLID), ("tellall", "g(6), g(4)")]
        for number in FAR + HUGE + (5, 6, -2, -5, -6):
            self.assertEqual(ask_last(*calls, ("fact", number)), [-8])
        for number in FAR + (0,):
            self.assertEqual(ask_last(("program", ""), ("fact", number)), [-8])

    def test_no_program_comes_first(self):
        self.assertEqual(ask(("fact", -1), ("program", "!"), ("fact", 0)), [[-3], [-2], [-3]])

    def test_in_a_run_and_behind_it(self):
        calls = [("program", EUCLID), ("tell", "g(6)"), ("begin", "g(4)"), ("fact", 1), ("steps", 1), ("fact", 0), ("tell", "x"),
                 ("fact", 2), ("quit",), ("fact", 0), ("tell", "x("), ("fact", 1), ("program", ""), ("fact", 0)]
        self.assertEqual(ask(*calls)[3::2], [
            [0, 1, *as_bytes("g(4)")], [0, 0, *as_bytes("g(6)")], [0, 1, *as_bytes("g(2)")], [0, 1, *as_bytes("g(6)")], [-8], [-8]])

    def test_a_number_given_anew_behind_quit(self):
        calls = [("program", ""), ("begin", "a"), ("quit",), ("fact", 0), ("tell", "b"), ("fact", 0)]
        self.assertEqual(ask(*calls)[3::2], [[-8], [0, 1, 98]])

    def test_three_hundred(self):
        spend = "rule spend { take a(N); if 0 < N; put e, e, e, a(N - 1); } rule eat { take e, e, e; }"
        calls = [("program", spend), ("tellall", "x, x, x, a(74)")]
        self.assertEqual(ask(*calls, ("fact", 299), ("fact", 300), ("fact", 3))[2:],
                         [[0, 1, *as_bytes("a(0)")], [-8], [0, 0, *as_bytes("a(74)")]])


class Promise10Deeds(unittest.TestCase):
    def pairs(self, count, more=""):
        return [("program", PAIRS + more), ("tellall", facts(count)), ("begin", "go")]

    def rows(self, count):
        """The deeds of PAIRS with so many facts and go behind them."""
        found = [[0, 3, *row, count] for row in itertools.permutations(range(count), 2)]
        return found + [[1, 2, number, count] for number in range(count)]

    def test_none(self):
        calls = [("program", PAIRS), ("deeds",), ("tellall", facts(3)), ("deeds",), ("begin", "x"), ("deeds",)]
        self.assertEqual(ask(*calls)[1::2], [[0, 0]] * 3)
        self.assertEqual(ask(("program", ""), ("begin", "x"), ("deeds",))[2], [0, 0])

    def test_in_order(self):
        self.assertEqual(ask_last(*self.pairs(3), ("deeds",)), [
            0, 9, 0, 3, 0, 1, 3, 0, 3, 0, 2, 3, 0, 3, 1, 0, 3, 0, 3, 1, 2, 3, 0, 3, 2, 0, 3, 0, 3, 2, 1, 3,
            1, 2, 0, 3, 1, 2, 1, 3, 1, 2, 2, 3])

    def test_a_hundred(self):
        self.assertEqual(ask_last(*self.pairs(10), ("deeds",)), [0, 100] + flat(self.rows(10)))

    def test_one_less(self):
        program = "rule two { keep a(X), a(Y), go; } rule one { keep a(X), go; if X <> 9; }"
        self.assertEqual(ask_last(("program", program), *self.pairs(10)[1:], ("deeds",)), [0, 99] + flat(self.rows(10)[:99]))

    def test_one_more(self):
        self.assertEqual(ask_last(*self.pairs(10, "rule last { take go; }"), ("deeds",)), [0, 101] + flat(self.rows(10)))

    def test_many_more(self):
        self.assertEqual(len(self.rows(15)), 225)
        self.assertEqual(ask_last(*self.pairs(15), ("deeds",)), [0, 225] + flat(self.rows(15)[:100]))
        program = " ".join("rule r%d { keep go, a(X), a(Y); }" % number for number in range(12))
        found = ask_last(("program", program), ("tellall", facts(15)), ("begin", "go"), ("deeds",))
        self.assertEqual(found[:8] + found[-5:], [0, 2520, 0, 3, 15, 0, 1, 0, 0, 3, 15, 7, 1])

    def test_each_deed_that_is_done_is_one_less(self):
        found = ask(*self.pairs(2), *[("step",), ("deeds",)] * 8)[3:]
        counts = [answer[1] for answer in found[1::2]]
        self.assertEqual([what[1] for what in found[::2]], [1, 1, 4, 4, 1, 2, 1, 4])
        self.assertEqual(counts, [4, 4, 3, 2, 2, 2, 2, 1])

    def test_the_same_value_twice(self):
        calls = [("program", "rule r { take a, a, go; }"), ("tellall", "a, a"), ("begin", "go"), ("deeds",)]
        self.assertEqual(ask_last(*calls), [0, 2, 0, 3, 0, 1, 2, 0, 3, 1, 0, 2])

    def test_a_fact_that_has_gone(self):
        calls = [("program", "rule r { take a(X), go; }"), ("tellall", "a(0), a(1)"), ("begin", "go"), ("deeds",),
                 ("steps", 2), ("deeds",)]
        self.assertEqual(ask(*calls)[3:], [[0, 2, 0, 2, 0, 2, 0, 2, 1, 2], [0, 2, 1, 0], [0, 0]])

    def test_a_rule_that_fails(self):
        calls = [("program", CLASH + "rule r { keep q(X); }"), ("tell", "p(1)"), ("begin", "q(1)"), ("deeds",), ("steps", 9), ("deeds",)]
        self.assertEqual(ask(*calls)[3::2], [[0, 2, 0, 2, 0, 1, 1, 1, 1], [0, 0]])

    def test_behind_quit_a_refused_call_and_a_new_program(self):
        calls = self.pairs(2)
        expected = [0, 4, 0, 3, 0, 1, 2, 0, 3, 1, 0, 2, 1, 2, 0, 2, 1, 2, 1, 2]
        for call, answer in ((("tell", "a(1)"), expected), (("program", "!"), expected), (("steps", -1), expected),
                             (("quit",), [0, 0]), (("program", PAIRS), [0, 0]), (("steps", 20000), [0, 0])):
            self.assertEqual(ask_last(*calls, call, ("deeds",)), answer)


class Promise10Log(unittest.TestCase):
    def test_empty(self):
        self.assertEqual(ask_last(("program", EUCLID), ("log",)), [0])

    def test_in_a_run_and_behind_it(self):
        calls = [("program", EUCLID), ("tell", "g(6)"), ("begin", "g(4)"), ("log",), ("step",), ("log",), ("tell", "x"), ("log",),
                 ("quit",), ("log",), ("tell", "1"), ("log",), ("program", ""), ("log",)]
        told, done = [0, 0, 0, 0, 1], [0, 0, 0, 0, 1, 1, 0, 2, 1, 0]
        self.assertEqual(ask(*calls)[3::2], [told, done, done, [0, 0, 0], [0, 0, 0], [0]])

    def test_rows_of_one_two_and_three(self):
        program = "rule a { keep a; } rule b { keep a; take b; } rule c { keep a, d; take c; }"
        self.assertEqual(ask_last(("program", program), ("tellall", "a, b, d, c"), ("log",)),
                         [0, 0, 0, 1, 0, 1, 0, 0, 1, 1, 1, 2, 0, 1, 0, 2, 0, 3, 1, 2, 3, 0, 2, 3])

    def test_a_run_that_is_refused_leaves_no_entry(self):
        calls = [("program", CLASH + COUNT), ("tell", "p(1)")]
        for call, refusal in ((("tell", "q(1)"), -15), (("tell", "a(200)"), -7), (("tellall", "a(1), q(1)"), -15),
                              (("tellall", "x" + ", x" * 16), -6)):
            self.assertEqual(ask(*calls, call, ("log",))[2:], [[refusal], [0, 0, 0]])

    def test_two_hundred_entries(self):
        entries = [0, 0] + flat([1, 0, 1, number] for number in range(199))
        self.assertEqual(ask(("program", COUNT), ("tell", "a(199)"), ("log",), ("status",))[2:],
                         [[0] + entries, [0, 1, 200, 200, 0, 0, 0]])
        self.assertEqual(ask_last(("program", COUNT), ("begin", "a(200)"), ("steps", 20000), ("step",), ("log",)), [0] + entries)

    def test_the_deed_that_fails_is_an_entry(self):
        calls = [("program", CLASH), ("tell", "p(1)"), ("begin", "q(1)"), ("steps", 9), ("log",)]
        self.assertEqual(ask_last(*calls), [0, 0, 0, 0, 1, 1, 0, 2, 0, 1])


class Promise10Status(unittest.TestCase):
    def test_before_in_and_behind_a_run(self):
        calls = [("program", "rule r { keep a(X), b; put c(X); } rule s { take c(X); }"), ("status",), ("tellall", "a(1), a(2)"),
                 ("status",), ("begin", "b"), ("status",), ("steps", 2), ("status",), ("steps", 3), ("status",), ("steps", 20000),
                 ("status",)]
        # The steps: head 0 in vain, the deed of a(1), then c(1) at rule 0: two heads in vain, and on to rule 1.
        self.assertEqual(ask(*calls)[1::2], [
            [0, 0, 0, 0, 0, 0, 0], [0, 2, 2, 2, 0, 0, 0], [0, 3, 3, 3, 0, 0, 1], [0, 4, 4, 4, 1, 0, 1], [0, 4, 4, 4, 1, 0, 1],
            [0, 3, 5, 7, 2, 0, 0]])

    def test_at_rest_with_the_last_step(self):
        calls = [("program", ""), ("begin", "a"), ("status",), ("step",), ("status",)]
        self.assertEqual(ask(*calls)[2::2], [[0, 1, 1, 1, 0, 0, 1], [0, 1, 1, 1, 0, 0, 0]])
        for most, way in ((5, 1), (6, 0)):
            self.assertEqual(ask_last(("program", EUCLID), ("begin", "g(6)"), ("steps", most), ("status",)), [0, 1, 1, 1, 0, 0, way])

    def test_a_run_that_is_given_up(self):
        calls = [("program", "rule r { keep a; put b; }"), ("tell", "a"), ("status",), ("begin", "a"), ("steps", 1), ("status",),
                 ("quit",), ("status",)]
        self.assertEqual(ask(*calls)[2::3], [[0, 2, 2, 2, 1, 0, 0], [0, 4, 4, 4, 2, 0, 1]])
        self.assertEqual(ask_last(*calls), [0, 2, 2, 2, 1, 0, 0])

    def test_a_bag_that_has_failed(self):
        calls = [("program", CLASH), ("tell", "p(1)"), ("begin", "q(1)"), ("steps", 1), ("status",), ("step",), ("status",),
                 ("tell", "x"), ("status",), ("quit",), ("status",)]
        self.assertEqual(ask(*calls)[4::2], [[0, 2, 2, 2, 0, 0, 1], [0, 2, 2, 3, 0, 1, 1], [0, 2, 2, 3, 0, 1, 1], [0, 1, 1, 1, 0, 0, 0]])

    def test_a_refused_tell_is_not_on_its_way(self):
        for call in (("tell", "q(1)"), ("tellall", "x, q(1)"), ("tell", "X"), ("begin", "X"), ("program", "!")):
            self.assertEqual(ask_last(("program", CLASH), ("tell", "p(1)"), call, ("status",)), [0, 1, 1, 1, 0, 0, 0])

    def test_a_new_program(self):
        for end in ([], [("quit",)], [("steps", 20000)]):
            self.assertEqual(ask_last(("program", CLASH), ("tell", "p(1)"), ("begin", "q(1)"), *end, ("program", CLASH), ("status",)),
                             [0, 0, 0, 0, 0, 0, 0])

    def test_remembered_deeds_stay_so_when_their_facts_have_gone(self):
        calls = [("program", "rule r { keep a; put b; } rule s { take a; }"), ("tell", "a"), ("status",)]
        self.assertEqual(ask_last(*calls), [0, 1, 2, 3, 1, 0, 0])

    def test_a_stuck_run_is_on_its_way(self):
        calls = [("program", "rule r { take a; put b, b; }"), ("tellall", "x" + ", x" * 14), ("begin", "a"), ("steps", 20000), ("status",)]
        self.assertEqual(ask(*calls)[3:], [[0, 0, 0, 3], [0, 16, 16, 16, 0, 0, 1]])


class NothingIsChangedByAQuestion(unittest.TestCase):
    BASE = [("program", "rule r { keep a(X); take b(X); put c(X); } " + CLASH), ("tellall", "a(1), p(1)"), ("begin", "b(1)"),
            ("step",), ("step",), ("steps", 3), ("steps", 99), ("begin", "q(1)"), ("steps", 99), ("step",), ("quit",),
            ("tell", "b(1)"), ("begin", "b(1)"), ("step",), ("quit",), ("tell", "X"), ("tell", "q(2)"), ("program", "!"),
            ("program", CLASH), ("tell", "p(1)")]
    ASKED = QUESTIONS + [("next", 2, 0, 1), ("next", 3, 1, 1), ("next", -1, 0, 0), ("next", 0, 9, 0), ("next", 0, 0, 9), ("fact", -1), ("fact", 3)]

    def test_the_other_answers_stay(self):
        for first in range(0, len(self.ASKED), 7):
            asked = self.ASKED[first:first + 7]
            found = ask(*flat([*asked, call] for call in self.BASE))
            self.assertEqual(found[7::8], ask(*self.BASE))
            self.assertEqual(found[:7], [[-3]] * 7)

    def test_asked_twice(self):
        for place in range(len(self.BASE) + 1):
            found = ask(*self.BASE[:place], *self.ASKED, *self.ASKED)[place:]
            self.assertEqual(found[:len(self.ASKED)], found[len(self.ASKED):])

    def test_refused_calls_change_no_answer(self):
        tried = [("program", "rule"), ("program", " " * 3001), ("tell", "X"), ("tell", "q(1)"), ("tellall", "a(2), 1"),
                 ("tellall", "b(1), q(1), p(1)"), ("tellall", "x" + ", x" * 16), ("begin", "a, b"), ("begin", "a"), ("tell", "a"),
                 ("step",), ("steps", -1), ("steps", 20001), ("quit",)]
        refused = 0
        for place in range(1, len(self.BASE) + 1):
            before = ask(*self.BASE[:place], *self.ASKED)[place:]
            for call in tried:
                found = ask(*self.BASE[:place], call, *self.ASKED)[place:]
                if found[0][0] < 0:
                    refused += 1
                    self.assertEqual(found[1:], before, (place, call))
        self.assertGreater(refused, 100)

    def test_no_program(self):
        for call in self.ASKED:
            self.assertEqual(ask(call, ("program", "rule"), call, ("program", "")), [[-3], [-2], [-3], [0, 0]])


if __name__ == "__main__":
    unittest.main()
