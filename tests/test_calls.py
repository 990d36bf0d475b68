"""The promises 1 to 7: what each call answers, refuses and leaves."""

import unittest

from orderedrules.deeds import first_deed
from orderedrules.session import Session, begin, give_up, step_often, step_once, take_program, tell, tell_all
from tests.helper import CLASH, COUNT, EUCLID, as_bytes, ask, ask_last

# Counts a fact down to 0 as COUNT does, but each deed gives 4 numbers for 2 entries of the log.
SPEND = "rule spend { take a(N); if 0 < N; put e, e, e, a(N - 1); } rule eat { take e, e, e; }"


def row(thing, count):
    return ", ".join([thing] * count)


def padded(text, length):
    return text + " " * (length - len(text))


def held(session):
    """All that a session holds, to compare it with what it held before."""
    bags = []
    for bag in (session.bag, session.before):
        bags.append(bag and (list(bag.facts), list(bag.living), dict(bag.remembered), bag.failed, list(bag.entries)))
    return (session.program, bags, list(session.pile))


class Examples(unittest.TestCase):
    def test_euclid(self):
        session = Session()
        self.assertEqual(take_program(session, as_bytes(EUCLID)), [0, 2])
        self.assertEqual(tell(session, as_bytes("g(6)")), [0, 0, 0, 6])
        self.assertEqual(tell(session, as_bytes("g(4)")), [0, 1, 4, 16])
        self.assertEqual([(n, session.bag.facts[n]) for n in session.bag.living], [(3, ("g", 2))])
        self.assertEqual(session.bag.entries, [[0, 0], [0, 1], [1, 0, 2, 1, 0], [1, 0, 2, 2, 1], [1, 0, 2, 3, 2], [1, 1, 1, 4]])

    def test_clash(self):
        session = Session()
        take_program(session, as_bytes(CLASH))
        self.assertEqual(tell(session, as_bytes("p(1)"))[0], 0)
        self.assertEqual(tell(session, as_bytes("q(2)"))[0], 0)
        self.assertEqual(tell(session, as_bytes("q(1)")), [-15])
        self.assertEqual(begin(session, as_bytes("q(1)")), [0, 2])
        self.assertEqual(step_often(session, 100), [0, 2, 1, 2])
        bag = session.bag
        self.assertEqual((bag.living, len(bag.facts), len(bag.entries), bag.remembered, bag.failed), ([0, 1, 2], 3, 4, {}, True))
        self.assertEqual(step_once(session), [-5])
        self.assertEqual(give_up(session), [0])
        bag = session.bag
        self.assertEqual((bag.living, len(bag.facts), len(bag.entries), bag.remembered, bag.failed), ([0, 1], 2, 2, {}, False))
        self.assertIsNone(session.before)


class Promise1Program(unittest.TestCase):
    def test_how_many_rules(self):
        for count in (0, 1, 2, 12):
            text = "".join("rule r%d { keep a; } level w%d 1;" % (number, number) for number in range(count))
            self.assertEqual(ask_last(("program", text)), [0, count])

    def test_lengths(self):
        text = "rule r { keep a; }"
        for length, expected in ((2999, [0, 1]), (3000, [0, 1]), (3001, [-1]), (4000, [-1])):
            self.assertEqual(ask_last(("program", padded(text, length))), expected)

    def test_too_long_comes_ahead_of_a_fault(self):
        self.assertEqual(ask_last(("program", "!" * 3000)), [-2])
        self.assertEqual(ask_last(("program", "!" * 3001)), [-1])

    def test_a_new_program_begins_anew(self):
        before = [("program", CLASH), ("tellall", "p(1), q(2)"), ("begin", "q(1)"), ("steps", 100)]
        for kept in range(len(before) + 1):
            new = [("program", CLASH), ("step",), ("tell", "p(1)"), ("tell", "q(1)"), ("begin", "q(3)"), ("steps", 9)]
            self.assertEqual(ask(*before[:kept], *new)[kept:], ask(*new))

    def test_the_same_program_forgets_its_deeds(self):
        once = [("program", "rule r { keep a; put b; }"), ("tell", "a")]
        self.assertEqual(ask(*once, *once), [[0, 1], [0, 0, 1, 7]] * 2)

    def test_a_refused_program_leaves_all(self):
        for text, refusal in (("rule", -2), ("!", -2), ("rule a { }", -2), (" " * 3001, -1)):
            calls = [("program", CLASH), ("tell", "p(1)"), ("begin", "q(1)"), ("step",), ("program", text), ("step",)]
            self.assertEqual(ask(*calls)[4:], [[refusal], [0, 5, 0, 2, 0, 1]])

    def test_a_refused_first_program_is_not_held(self):
        self.assertEqual(ask(("program", "rule"), ("tell", "a")), [[-2], [-3]])


class Promise2Tell(unittest.TestCase):
    def test_without_rules(self):
        self.assertEqual(ask(("program", ""), ("tell", "a"), ("tell", "a"))[1:], [[0, 0, 0, 1], [0, 1, 0, 1]])

    def test_two_facts_of_the_same_value(self):
        calls = [("program", "rule pair { take a(X), a(X); put b; }"), ("tell", "a(1)"), ("tell", "a(2)"), ("tell", "a(1)")]
        self.assertEqual(ask(*calls)[1:], [[0, 0, 0, 4], [0, 1, 0, 4], [0, 2, 1, 6]])

    def test_one_fact_does_not_stand_for_two_heads(self):
        self.assertEqual(ask_last(("program", "rule r { keep a(X), a(Y); fail; }"), ("tell", "a(1)"))[0], 0)
        self.assertEqual(ask_last(("program", "rule r { keep a(X), a(Y); fail; }"), ("tellall", "a(1), a(1)")), [-15])

    def test_a_remembered_deed_is_done_once(self):
        calls = [("program", "rule r { keep a(X), a(Y); put b; }"), ("tell", "a(1)"), ("tell", "a(1)"), ("tell", "a(2)")]
        self.assertEqual([answer[2] for answer in ask(*calls)[1:]], [0, 2, 4])

    def test_a_rule_that_only_keeps_is_remembered_too(self):
        self.assertEqual(ask_last(("program", "rule r { keep a; }"), ("tell", "a")), [0, 0, 1, 4])

    def test_a_deed_that_takes_is_not_remembered(self):
        self.assertEqual(ask_last(("program", "rule r { keep k; take a(N); if N < 9; put a(N + 1); }"),
                              ("tell", "k"), ("tell", "a(0)"))[2], 9)

    def test_a_put_worth_nothing_is_no_deed(self):
        program = "rule r { take a(X); put b, c(1 / X); }"
        self.assertEqual(ask_last(("program", program), ("tell", "a(0)")), [0, 0, 0, 3])
        self.assertEqual(ask_last(("program", program), ("tell", "a(1)"))[2], 1)

    def test_lengths(self):
        for length, expected in ((3000, 0), (3001, -1), (4000, -1)):
            self.assertEqual(ask_last(("program", ""), ("tell", padded("a", length)))[0], expected)

    def test_sixteen_living_facts(self):
        full = [("program", COUNT), ("tellall", row("x", 15))]
        self.assertEqual(ask_last(*full, ("tell", "a(0)"))[0], 0)
        self.assertEqual(ask_last(*full, ("tell", "a(5)")), [0, 15, 5, 13])
        self.assertEqual(ask_last(*full, ("tell", "x"), ("tell", "x")), [-6])

    def test_a_deed_that_is_too_much(self):
        program = ("program", "rule r { take a; put b, b, b; }")
        self.assertEqual(ask_last(program, ("tellall", row("x", 13)), ("tell", "a"))[0], 0)
        self.assertEqual(ask_last(program, ("tellall", row("x", 14)), ("tell", "a")), [-6])
        keeping = ("program", "rule r { keep a; put b; }")
        self.assertEqual(ask_last(keeping, ("tellall", row("x", 14)), ("tell", "a"))[0], 0)
        self.assertEqual(ask_last(keeping, ("tellall", row("x", 15)), ("tell", "a")), [-6])

    def test_three_hundred_numbers(self):
        self.assertEqual(ask_last(("program", SPEND), ("tellall", row("x", 3)), ("tell", "a(74)"))[:3], [0, 3, 148])
        self.assertEqual(ask_last(("program", SPEND), ("tellall", row("x", 4)), ("tell", "a(74)")), [-6])
        self.assertEqual(ask_last(("program", SPEND), ("tellall", row("x", 3)), ("tell", "a(74)"), ("tell", "x")), [-6])
        self.assertEqual(ask_last(("program", SPEND), ("tellall", row("x", 2)), ("tell", "a(74)"), ("tell", "x"))[:2], [0, 299])

    def test_two_hundred_entries(self):
        self.assertEqual(ask_last(("program", COUNT), ("tell", "a(199)"))[:3], [0, 0, 199])
        self.assertEqual(ask_last(("program", COUNT), ("tell", "a(200)")), [-7])
        self.assertEqual(ask_last(("program", COUNT), ("tell", "a(199)"), ("tell", "x")), [-7])
        self.assertEqual(ask_last(("program", COUNT), ("tell", "a(198)"), ("tell", "x"))[:2], [0, 199])

    def test_a_run_without_end(self):
        self.assertEqual(ask_last(("program", "rule r { take a; put a; }"), ("tell", "a")), [-7])
        self.assertEqual(ask_last(("program", "rule r { keep a(X); put a(X); }"), ("tell", "a(1)")), [-6])

    def test_too_much_comes_ahead_of_a_full_log(self):
        full = [("program", COUNT), ("tellall", row("x", 15)), ("tell", "a(184)")]
        self.assertEqual(ask(*full, ("tell", "x"))[2:], [[0, 15, 184, 371], [-6]])
        end = ("program", COUNT + "rule end { take a(0); put b, b; }")
        self.assertEqual(ask_last(end, ("tellall", row("x", 15)), ("tell", "a(184)")), [-6])
        self.assertEqual(ask_last(end, ("tellall", row("x", 14)), ("tell", "a(185)")), [-7])

    def test_whichever_comes_first_in_the_run(self):
        both = COUNT + "rule no { keep a(0); fail; }"
        self.assertEqual(ask_last(("program", both), ("tell", "a(198)")), [-15])
        self.assertEqual(ask_last(("program", both), ("tell", "a(199)")), [-7])
        early = "rule no { keep a; fail; } rule much { keep a; put " + row("b", 4) + "; }"
        late = "rule much { keep a; put " + row("b", 4) + "; } rule no { keep a; fail; }"
        self.assertEqual(ask_last(("program", early), ("tellall", row("x", 15)), ("tell", "a")), [-15])
        self.assertEqual(ask_last(("program", late), ("tellall", row("x", 15)), ("tell", "a")), [-6])

    def test_order_of_refusals(self):
        long = "a" + " " * 3000
        self.assertEqual(ask(("tell", long), ("tell", "X"), ("tell", "a")), [[-3]] * 3)
        way = [("program", ""), ("tellall", row("x", 15)), ("begin", "a")]
        self.assertEqual(ask_last(*way, ("tell", "X" * 3001)), [-1])
        self.assertEqual(ask_last(*way, ("tell", long)), [-1])
        self.assertEqual(ask_last(*way, ("tell", "X")), [-4])
        self.assertEqual(ask_last(*way, ("tell", "a")), [-17])
        self.assertEqual(ask_last(*way, ("step",), ("tell", "a")), [-6])

    def test_a_run_that_fails_leaves_nothing(self):
        program = ("program", "rule two { keep p(X); put r(X); } " + CLASH)
        session = Session()
        take_program(session, as_bytes(program[1]))
        tell_all(session, as_bytes("p(1), q(2)"))
        before = held(session)
        self.assertEqual(tell(session, as_bytes("q(1)")), [-15])
        self.assertEqual(held(session), before)
        self.assertEqual(tell(session, as_bytes("q(3)"))[:2], [0, 3])

    def test_a_failing_rule_is_no_deed_where_its_test_fails(self):
        self.assertEqual(ask_last(("program", "rule r { keep a(X); if X < 3; fail; }"), ("tell", "a(3)"))[0], 0)
        self.assertEqual(ask_last(("program", "rule r { keep a(X); if X < 3; fail; }"), ("tell", "a(2)")), [-15])


class Promise3Tellall(unittest.TestCase):
    def test_one_after_the_other(self):
        self.assertEqual(ask_last(("program", EUCLID), ("tellall", "g(6), g(4)")), [0, 2, 4, 22])
        self.assertEqual(ask(("program", EUCLID), ("tellall", "g(6), g(4)"), ("tell", "x"))[-1][:2], [0, 5])
        self.assertEqual(ask_last(("program", EUCLID), ("tellall", "g(6)")), [0, 1, 0, 6])

    def test_same_as_tell(self):
        told = ask(("program", EUCLID), ("tell", "g(12)"), ("tell", "g(18)"), ("tell", "g(4)"))[1:]
        whole = ask_last(("program", EUCLID), ("tellall", "g(12),g(18),g(4)"))
        self.assertEqual(whole, [0, 3, sum(answer[2] for answer in told), sum(answer[3] for answer in told)])

    def test_none_is_told_if_one_is_refused(self):
        for text, refusal in (("p(1), q(2), q(1), r", -15), (row("x", 17), -6), ("q(1), p(1)", -15)):
            calls = [("program", CLASH), ("tellall", text), ("tell", "p(1)")]
            self.assertEqual(ask(*calls)[1:], [[refusal], [0, 0, 0, 4]])
        self.assertEqual(ask(("program", COUNT), ("tellall", "x, a(199)"), ("tell", "a(1)"))[1:], [[-7], [0, 0, 1, 5]])
        self.assertEqual(ask(("program", COUNT), ("tellall", "a(199), x"), ("tell", "a(1)"))[1:], [[-7], [0, 0, 1, 5]])

    def test_sixteen(self):
        self.assertEqual(ask_last(("program", ""), ("tellall", row("x", 16))), [0, 16, 0, 16])
        self.assertEqual(ask_last(("program", ""), ("tellall", row("x", 17))), [-6])

    def test_what_is_no_such_text(self):
        for text in ("", ",", "a,", ",a", "a,,b", "a b", "a;b", "1", "a, 1", "a, X", "X, a", "a, b(X)", "a, b()", "a, ("):
            self.assertEqual(ask_last(("program", ""), ("tellall", text)), [-4])

    def test_each_value_has_its_own_parts(self):
        value = "f(g(1, 2, 3), g(1, 2, 3), g(1, 2, h(3)))"
        self.assertEqual(ask_last(("program", ""), ("tellall", value + "," + value))[:2], [0, 2])

    def test_lengths(self):
        for length, expected in ((3000, 0), (3001, -1), (4000, -1)):
            self.assertEqual(ask_last(("program", ""), ("tellall", padded("a, b", length)))[0], expected)
        self.assertEqual(ask_last(("program", ""), ("tellall", "a," * 1499 + "a")), [-6])

    def test_many_facts_that_go(self):
        self.assertEqual(ask_last(("program", "rule r { take a; }"), ("tellall", row("a", 100))), [0, 100, 100, 200])
        self.assertEqual(ask_last(("program", "rule r { take a; }"), ("tellall", row("a", 101))), [-7])

    def test_order_of_refusals(self):
        self.assertEqual(ask(("tellall", " " * 3001), ("tellall", ""), ("tellall", "a")), [[-3]] * 3)
        way = [("program", CLASH), ("tellall", row("x", 14) + ", p(1)"), ("begin", "a")]
        self.assertEqual(ask_last(*way, ("tellall", " " * 3001)), [-1])
        self.assertEqual(ask_last(*way, ("tellall", "q(1), 1")), [-4])
        self.assertEqual(ask_last(*way, ("tellall", "q(1), x")), [-17])


class Promise4Begin(unittest.TestCase):
    def test_only_the_coming_is_done(self):
        session = Session()
        take_program(session, as_bytes(EUCLID))
        tell(session, as_bytes("g(6)"))
        self.assertEqual(begin(session, as_bytes("g(4)")), [0, 1])
        self.assertEqual((session.bag.living, session.bag.entries, session.pile), ([0, 1], [[0, 0], [0, 1]], [(1, 0, 0)]))
        self.assertEqual((session.before.living, session.before.entries), ([0], [[0, 0]]))

    def test_on_its_way_even_without_rules(self):
        self.assertEqual(ask(("program", ""), ("begin", "a"), ("tell", "a"), ("step",), ("tell", "a"))[1:],
                         [[0, 0], [-17], [0, 3], [0, 1, 0, 1]])

    def test_too_much(self):
        self.assertEqual(ask_last(("program", ""), ("tellall", row("x", 15)), ("begin", "a")), [0, 15])
        self.assertEqual(ask_last(("program", ""), ("tellall", row("x", 16)), ("begin", "a")), [-6])
        spent = [("program", SPEND), ("tellall", row("x", 3)), ("tell", "a(74)")]
        self.assertEqual(ask_last(*spent, ("begin", "x")), [-6])

    def test_a_full_log(self):
        self.assertEqual(ask_last(("program", COUNT), ("tell", "a(198)"), ("begin", "x")), [0, 199])
        self.assertEqual(ask_last(("program", COUNT), ("tell", "a(199)"), ("begin", "x")), [-7])
        self.assertEqual(ask_last(("program", COUNT), ("tellall", row("x", 15)), ("tell", "a(184)"), ("begin", "x")), [-6])

    def test_order_of_refusals(self):
        self.assertEqual(ask(("begin", " " * 3001), ("begin", "1"), ("begin", "a")), [[-3]] * 3)
        way = [("program", ""), ("tellall", row("x", 15)), ("begin", "a")]
        self.assertEqual(ask_last(*way, ("begin", " " * 3001)), [-1])
        self.assertEqual(ask_last(*way, ("begin", "a, b")), [-4])
        self.assertEqual(ask_last(*way, ("begin", "b")), [-17])

    def test_lengths(self):
        for length, expected in ((3000, 0), (3001, -1), (4000, -1)):
            self.assertEqual(ask_last(("program", ""), ("begin", padded("a", length)))[0], expected)

    def test_a_refused_begin_is_not_on_its_way(self):
        self.assertEqual(ask(("program", ""), ("begin", "X"), ("step",), ("tell", "a"))[1:], [[-4], [-18], [0, 0, 0, 1]])


class Promise5Step(unittest.TestCase):
    def steps(self, program, told, fact):
        """What happens in each step of a run up to its end."""
        calls = [("program", program)] + [("tell", text) for text in told] + [("begin", fact)]
        found = ask(*calls, *[("step",)] * 60)[len(calls):]
        end = [answer[0] for answer in found].index(min(answer[0] for answer in found))
        return found[:end + 1]

    def test_heads_then_rules_then_rest(self):
        self.assertEqual(self.steps(EUCLID, [], "g(6)"), [[0, 1], [0, 1], [0, 2], [0, 1], [0, 2], [0, 3], [-18]])

    def test_deeds_of_a_run(self):
        found = self.steps(EUCLID, ["g(6)"], "g(4)")
        self.assertEqual([answer for answer in found if answer[1:2] == [4]],
                         [[0, 4, 0, 2, 1, 0], [0, 4, 0, 2, 2, 1], [0, 4, 0, 2, 3, 2], [0, 4, 1, 1, 4]])
        self.assertEqual(len(found), 17)

    def test_the_task_stays_and_new_ones_come_on_top(self):
        program = "rule s { take s; put p(1), p(2); } rule p { take p(X); put q(X); }"
        self.assertEqual(self.steps(program, [], "s"),
                         [[0, 4, 0, 1, 0],
                          [0, 1], [0, 2], [0, 4, 1, 1, 1], [0, 1], [0, 2], [0, 1], [0, 2], [0, 3], [0, 0],
                          [0, 1], [0, 2], [0, 4, 1, 1, 2], [0, 1], [0, 2], [0, 1], [0, 2], [0, 3], [0, 0],
                          [0, 0], [-18]])

    def test_the_first_deed_in_order(self):
        program = "rule r { keep k(X), k(Y); take t; }"
        self.assertEqual(self.steps(program, ["k(1)", "k(2)", "k(3)"], "t"),
                         [[0, 1], [0, 1], [0, 4, 0, 3, 0, 1, 3], [0, 0], [-18]])
        program = "rule r { take t, k(X), k(Y); if 1 < X; }"
        self.assertEqual(self.steps(program, ["k(1)", "k(2)", "k(3)"], "t"), [[0, 4, 0, 3, 3, 1, 0], [0, 0], [-18]])

    def test_the_fact_stands_for_the_head_of_its_task(self):
        program = "rule r { keep a(X), a(Y); }"
        self.assertEqual(self.steps(program, ["a(1)", "a(2)"], "a(3)"),
                         [[0, 4, 0, 2, 2, 0], [0, 4, 0, 2, 2, 1], [0, 1],
                          [0, 4, 0, 2, 0, 2], [0, 4, 0, 2, 1, 2], [0, 1], [0, 2], [0, 3], [-18]])

    def test_a_fact_that_another_took(self):
        program = "rule s { keep s; put p, q; } rule p { keep p; take q; }"
        self.assertEqual(self.steps(program, [], "s"),
                         [[0, 4, 0, 1, 0], [0, 1], [0, 2], [0, 4, 1, 2, 1, 2], [0, 1], [0, 1], [0, 2], [0, 3],
                          [0, 0], [0, 1], [0, 2], [0, 1], [0, 1], [0, 2], [0, 3], [-18]])

    def test_a_rule_that_fails(self):
        self.assertEqual(self.steps("rule r { keep p(X); take q(X); fail; }", ["p(1)"], "q(1)"),
                         [[0, 1], [0, 5, 0, 2, 0, 1], [-5]])

    def test_nothing_can_be_done_in_a_failed_bag(self):
        session = Session()
        take_program(session, as_bytes("rule r { keep a; fail; }"))
        begin(session, as_bytes("a"))
        self.assertEqual(first_deed(session.bag, session.program.rules, 0, 0, 0), (0, (0,)))
        step_once(session)
        self.assertIsNone(first_deed(session.bag, session.program.rules, 0, 0, 0))

    def test_failing_neither_takes_nor_remembers(self):
        session = Session()
        take_program(session, as_bytes("rule s { take s; put t, u; } rule r { take t; fail; }"))
        begin(session, as_bytes("s"))
        step_often(session, 100)
        self.assertEqual((session.bag.living, session.bag.remembered, session.pile), ([1, 2], {}, []))
        self.assertEqual(session.bag.entries, [[0, 0], [1, 0, 1, 0], [1, 1, 1, 1]])

    def test_a_deed_that_is_too_much(self):
        calls = [("program", "rule r { take a; put b, b; }"), ("tellall", row("x", 15)), ("begin", "a")]
        self.assertEqual(ask(*calls, ("step",), ("step",), ("quit",), ("tell", "x"))[3:], [[-6], [-6], [0], [0, 15, 0, 3]])

    def test_a_full_log(self):
        calls = [("program", COUNT), ("begin", "a(200)"), ("steps", 20000), ("step",), ("step",)]
        self.assertEqual(ask(*calls)[1:], [[0, 0], [0, 199, 199, 3], [-7], [-7]])
        calls = [("program", COUNT), ("begin", "a(199)"), ("steps", 199)] + [("step",)] * 4
        self.assertEqual(ask(*calls)[2:], [[0, 199, 199, 0], [0, 1], [0, 2], [0, 3], [0, 0]])

    def test_a_full_log_and_a_rule_that_fails(self):
        program = COUNT + "rule no { keep a(0); fail; }"
        calls = [("program", program), ("begin", "a(199)"), ("steps", 20000), ("step",), ("quit",)]
        self.assertEqual(ask(*calls)[2:], [[0, 201, 199, 3], [-7], [0]])

    def test_too_much_comes_ahead_of_a_full_log(self):
        program = COUNT + "rule end { take a(0); put b, b; }"
        for others, refusal in ((15, -6), (14, -7)):
            calls = [("program", program), ("tellall", row("x", others)), ("begin", "a(%d)" % (199 - others))]
            self.assertEqual(ask(*calls, ("steps", 20000), ("step",))[-2:], [[0, 201 - others, 199 - others, 3], [refusal]])

    def test_order_of_refusals(self):
        self.assertEqual(ask(("step",), ("program", "rule"), ("step",), ("program", ""), ("step",)),
                         [[-3], [-2], [-3], [0, 0], [-18]])
        self.assertEqual(ask(("program", CLASH), ("tell", "p(1)"), ("begin", "q(1)"), *[("step",)] * 4, ("quit",), ("step",))[3:],
                         [[0, 1], [0, 5, 0, 2, 0, 1], [-5], [-5], [0], [-18]])


class Promise6Steps(unittest.TestCase):
    def test_as_many_as_told(self):
        calls = [("program", EUCLID), ("begin", "g(6)"), ("steps", 0), ("steps", 2), ("steps", 0), ("steps", 4), ("steps", 1)]
        self.assertEqual(ask(*calls)[2:], [[0, 0, 0, 0], [0, 2, 0, 0], [0, 0, 0, 0], [0, 4, 0, 1], [-18]])

    def test_at_rest_comes_ahead_of_the_count(self):
        for most, why in ((5, 0), (6, 1), (7, 1), (20000, 1)):
            self.assertEqual(ask_last(("program", EUCLID), ("begin", "g(6)"), ("steps", most)), [0, min(most, 6), 0, why])

    def test_failed_comes_ahead_of_the_count(self):
        for most, expected in ((1, [0, 1, 0, 0]), (2, [0, 2, 1, 2]), (3, [0, 2, 1, 2])):
            self.assertEqual(ask_last(("program", CLASH), ("tell", "p(1)"), ("begin", "q(1)"), ("steps", most)), expected)

    def test_the_count_comes_ahead_of_what_cannot_be(self):
        calls = [("program", "rule r { take a; put b, b; }"), ("tellall", row("x", 15)), ("begin", "a")]
        self.assertEqual(ask(*calls, ("steps", 0), ("steps", 1), ("steps", 1))[3:], [[0, 0, 0, 0], [0, 0, 0, 3], [0, 0, 0, 3]])

    def test_same_as_tell(self):
        told = [("program", EUCLID), ("tell", "g(48)"), ("tell", "g(18)")]
        begun = [("program", EUCLID), ("tell", "g(48)"), ("begin", "g(18)"), ("steps", 20000)]
        answer = ask_last(*told)
        self.assertEqual(ask_last(*begun), [0, answer[3], answer[2], 1])
        self.assertEqual(ask_last(*told, ("tell", "g(30)")), ask_last(*begun, ("tell", "g(30)")))

    def test_most(self):
        begun = [("program", EUCLID), ("begin", "g(6)")]
        for most in (-1, 20001, -10 ** 18, 10 ** 18):
            self.assertEqual(ask(*begun, ("steps", most), ("steps", 6))[2:], [[-19], [0, 6, 0, 1]])
        for most in (0, 1, 20000):
            self.assertEqual(ask_last(*begun, ("steps", most))[0], 0)

    def test_order_of_refusals(self):
        self.assertEqual(ask(("steps", -1), ("program", ""), ("steps", -1)), [[-3], [0, 0], [-18]])
        failed = [("program", CLASH), ("tell", "p(1)"), ("begin", "q(1)"), ("steps", 9)]
        for most in (-1, 0, 9, 20001):
            self.assertEqual(ask_last(*failed, ("steps", most)), [-5])


class Promise7Quit(unittest.TestCase):
    def test_all_is_as_it_was(self):
        program = "rule both { keep a(X), b(Y); put c(X, Y); } rule t { take a(X), c(X, Y); }"
        session = Session()
        take_program(session, as_bytes(program))
        tell_all(session, as_bytes("a(1), a(2), a(3)"))
        before = held(session)
        for steps in range(30):
            begin(session, as_bytes("b(0)"))
            step_often(session, steps)
            if session.before is None:
                break
            self.assertNotEqual(held(session), before)
            self.assertEqual(give_up(session), [0])
            self.assertEqual(held(session), before)
        self.assertGreater(steps, 10)

    def test_numbers_and_memory_come_back(self):
        run = [("begin", "a"), ("step",), ("step",), ("quit",)]
        answers = ask(("program", "rule r { keep a; put b; }"), *run, *run, ("tell", "a"))
        self.assertEqual(answers[1:], [[0, 0], [0, 4, 0, 1, 0], [0, 1], [0]] * 2 + [[0, 0, 1, 7]])

    def test_what_was_remembered_before_stays(self):
        session = Session()
        take_program(session, as_bytes("rule r { keep a(X); put b; }"))
        for number, fact in enumerate(("a(1)", "a(2)")):
            tell(session, as_bytes(fact))
            self.assertEqual(list(session.bag.remembered), [(0, (2 * n,)) for n in range(number + 1)])
        begin(session, as_bytes("a(3)"))
        step_once(session)
        self.assertEqual(len(session.bag.remembered), 3)
        give_up(session)
        self.assertEqual(list(session.bag.remembered), [(0, (0,)), (0, (2,))])

    def test_no_task_is_left(self):
        for end in (give_up, lambda session: take_program(session, [])):
            session = Session()
            take_program(session, as_bytes(EUCLID))
            begin(session, as_bytes("g(1)"))
            end(session)
            self.assertEqual((session.pile, session.before), ([], None))

    def test_the_log_comes_back(self):
        calls = [("program", COUNT), ("begin", "a(200)"), ("steps", 20000), ("quit",), ("tell", "a(199)")]
        self.assertEqual(ask_last(*calls)[:3], [0, 0, 199])

    def test_after_failing(self):
        calls = [("program", CLASH), ("tell", "p(1)"), ("begin", "q(1)"), ("steps", 9), ("quit",), ("tell", "q(2)")]
        self.assertEqual(ask(*calls)[4:], [[0], [0, 1, 0, 4]])

    def test_refusals(self):
        self.assertEqual(ask(("quit",), ("program", ""), ("quit",), ("begin", "a"), ("quit",), ("quit",)),
                         [[-3], [0, 0], [-18], [0, 0], [0], [-18]])
        self.assertEqual(ask(("program", ""), ("begin", "a"), ("step",), ("quit",))[2:], [[0, 3], [-18]])
        self.assertEqual(ask(("program", ""), ("begin", "a"), ("program", ""), ("quit",))[3:], [[-18]])


class RefusedCallsChangeNothing(unittest.TestCase):
    def test_anywhere(self):
        base = [("tell", "a"), ("program", "rule r { keep a(X); take b(X); put c(X); } " + CLASH), ("tellall", "a(1), p(1)"),
                ("begin", "b(1)"), ("step",), ("step",), ("steps", 3), ("steps", 99), ("begin", "q(1)"), ("steps", 99),
                ("step",), ("quit",), ("tell", "b(1)"), ("begin", "b(2)"), ("quit",), ("tell", "q(2)")]
        tried = [("program", "rule"), ("program", " " * 3001), ("tell", "X"), ("tell", " " * 3001), ("tell", "q(1)"),
                 ("tellall", "a(2), 1"), ("tellall", "a(2), q(1)"), ("tellall", row("x", 20)), ("begin", "a, b"),
                 ("begin", "a" + " " * 3000), ("tell", "a"), ("begin", "a"), ("step",), ("steps", -1), ("steps", 20001), ("quit",)]
        expected = ask(*base)
        seen = set()
        for place in range(len(base) + 1):
            for call in tried:
                found = ask(*base[:place], call, *base[place:])
                if found[place][0] < 0:
                    seen.add(found.pop(place)[0])
                    self.assertEqual(found, expected, (place, call))
        self.assertEqual(seen, {-1, -2, -3, -4, -5, -6, -15, -17, -18, -19})


if __name__ == "__main__":
    unittest.main()
