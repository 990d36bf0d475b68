"""The interface: one list in, one list out, nothing changed and nothing kept."""

import contextlib
import io
import sys
import unittest

import orderedrules.desk
from tests.helper import ask, decode, encode

CALLS = [
    ("tell", "a"), ("program", "rule no { keep p(X), q(X); fail; } rule r { keep a(X); take b(X); put c(X), d; }"),
    ("tellall", "a(1), p(1)"), ("tell", "q(1)"), ("begin", "b(1)"), ("step",), ("steps", 4), ("tell", "a"), ("quit",),
    ("begin", "b(1)"), ("steps", 20000), ("step",), ("tell", "X"), ("program", "rule"), ("tell", "a(1)"), ("begin", "b(1)"),
    ("pile",), ("next", 6, 1, 1), ("next", -1, 0, 0), ("bag",), ("fact", 6), ("deeds",), ("log",), ("status",), ("step",),
    ("pile",), ("next", 6, 1, 1), ("bag",), ("fact", 7), ("deeds",), ("log",), ("status",), ("begin", "q(1)"), ("quit",),
    ("begin", "q(1)"), ("steps", 9), ("pile",), ("deeds",), ("log",), ("status",),
]


class Watched(list):
    """A list that doesn't let itself be changed, not for a while either."""

    def refuse(self, *given, **named):
        raise AssertionError("the list that was handed in was changed")

    append = extend = insert = pop = remove = clear = sort = reverse = refuse
    __setitem__ = __delitem__ = __iadd__ = __imul__ = refuse


class Interface(unittest.TestCase):
    def test_where_it_lies(self):
        self.assertEqual(decode(orderedrules.desk.answers([0, 0, 1, 1, 97])), [[0, 0], [0, 0, 0, 1]])

    def test_calls_in_one_list(self):
        row = [3, 1, 97, 4, 5, 7, 6, 0, 0, 2, 3, 97, 44, 98, 3, 1, 97, 5, 1, 6]
        self.assertEqual(orderedrules.desk.answers(row), [1, -3, 1, -3, 1, -3, 1, -3, 2, 0, 0, 4, 0, 2, 0, 2, 2, 0, 2, 4, 0, 1, 0, 1, 1, -18])

    def test_questions_in_one_list(self):
        row = [0, 0, 7, 8, 0, 0, 0, 9, 10, 0, 11, 12, 13, 3, 4, 97, 40, 45, 41, 3, 1, 97, 7, 8, 0, -1, 5, 9, 10, 0, 11, 12, 13]
        self.assertEqual(orderedrules.desk.answers(row), [
            2, 0, 0, 2, 0, 0, 1, -8, 1, 0, 1, -8, 2, 0, 0, 1, 0, 7, 0, 0, 0, 0, 0, 0, 0, 1, -4, 2, 0, 0,
            5, 0, 1, 0, 0, 0, 1, -9, 4, 0, 0, 1, 97, 3, 0, 1, 97, 2, 0, 0, 3, 0, 0, 0, 7, 0, 1, 1, 1, 0, 0, 1])

    def test_questions_without_a_program(self):
        self.assertEqual(orderedrules.desk.answers([7, 8, 1, 2, 3, 9, 10, 4, 11, 12, 13]), [1, -3] * 7)

    def test_empty_texts(self):
        self.assertEqual(orderedrules.desk.answers([0, 0, 1, 0, 2, 0, 3, 0]), [2, 0, 0, 1, -4, 1, -4, 1, -4])

    def test_what_is_handed_in_is_not_changed(self):
        row = encode(CALLS)
        watched = Watched(row)
        self.assertEqual(orderedrules.desk.answers(watched), orderedrules.desk.answers(row))
        self.assertEqual(list(watched), row)
        self.assertEqual(row, encode(CALLS))

    def test_nothing_is_kept(self):
        first = orderedrules.desk.answers(encode(CALLS))
        self.assertEqual(orderedrules.desk.answers(encode([("tell", "a"), ("step",), ("quit",)])), [1, -3, 1, -3, 1, -3])
        self.assertEqual(orderedrules.desk.answers(encode(CALLS)), first)

    def test_the_answer_is_new_each_time(self):
        first = orderedrules.desk.answers(encode(CALLS))
        kept = list(first)
        second = orderedrules.desk.answers(encode(CALLS))
        second.clear()
        self.assertEqual(first, kept)

    def test_whole_numbers_alone(self):
        given = orderedrules.desk.answers(encode(CALLS))
        self.assertIs(type(given), list)
        self.assertEqual({type(number) for number in given}, {int})

    def test_nothing_is_printed(self):
        out, err = io.StringIO(), io.StringIO()
        with contextlib.redirect_stdout(out), contextlib.redirect_stderr(err):
            orderedrules.desk.answers(encode(CALLS))
        self.assertEqual(out.getvalue() + err.getvalue(), "")

    def test_two_hundred_calls(self):
        self.assertEqual(ask(("program", ""), *[("step",)] * 199), [[0, 0]] + [[-18]] * 199)

    def test_a_long_list(self):
        calls = [("program", " " * 3000), ("tell", "a" + " " * 2999), ("tellall", "a," * 7 + "a" + " " * 2985)]
        calls += [("begin", " " * 4000), ("quit",)]
        self.assertLess(len(encode(calls)), 16000)
        self.assertEqual(ask(*calls), [[0, 0], [0, 0, 0, 1], [0, 8, 0, 8], [-1], [-18]])


def depth_of_calls():
    frame = sys._getframe()
    depth = 0
    while frame:
        frame = frame.f_back
        depth += 1
    return depth


class LongAndDeep(unittest.TestCase):
    """What is long or deep in a text must not be deep in calls within one another."""

    def setUp(self):
        self.limit = sys.getrecursionlimit()
        sys.setrecursionlimit(depth_of_calls() + 250)

    def tearDown(self):
        sys.setrecursionlimit(self.limit)

    def test_long_sums(self):
        for sign in "+-*/%":
            self.assertEqual(ask(("program", "rule r{keep a;if 1" + (sign + "1") * 740 + "=1;}"), ("tell", "a"))[0], [0, 1])

    def test_long_rows(self):
        self.assertEqual(ask(("program", "rule r{keep a" + ",a" * 1480 + ";}")), [[-2]])
        self.assertEqual(ask(("program", "rule r{keep a;}" * 200)), [[-2]])
        self.assertEqual(ask(("program", "level a 1;" * 300)), [[-2]])
        self.assertEqual(ask(("program", ""), ("tellall", "a" + ",a" * 1490))[1], [-6])

    def test_deep_brackets(self):
        deep = "(" * 20 + "1" + ")" * 20
        self.assertEqual(ask(("program", "rule r{keep a;if " + deep + "=1;}"), ("tell", "a"))[1], [0, 0, 1, 4])
        self.assertEqual(ask(("program", "rule r{keep a;put " + "a(" * 20 + "1" + ")" * 20 + ";}"), ("tell", "a"))[1], [0, 0, 0, 3])
        for text in ("(" * 2900, "-(" * 1400, "a(" * 1400):
            self.assertEqual(ask(("program", "rule r{keep a;put " + text)), [[-2]])
        self.assertEqual(ask(("program", ""), ("tell", "a(" * 1490)), [[0, 0], [-4]])

    def test_a_run_with_many_deeds(self):
        program = "rule r { take a(N); if 0 < N; put a(N - 1); }"
        self.assertEqual(ask(("program", program), ("tell", "a(199)"))[1], [0, 0, 199, 401])


if __name__ == "__main__":
    unittest.main()
