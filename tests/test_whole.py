"""The promise 11: what holds over all calls together, on made-up programs and by hand."""

import unittest

from tests.helper import CLASH, COUNT, EUCLID, ask, ask_behind, ask_last
from tests.test_model import LivelyMaker, cut, form, model_program, pattern, use_of

CHANGING = ("program", "tell", "tellall", "begin", "step", "steps", "quit")
VIEW = [("pile",), ("bag",), ("deeds",), ("log",), ("status",)]


class WaitingMaker(LivelyMaker):
    """Programs with many rules that wait for the fact go."""

    def lively_head(self):
        return "go" if self.rare(3) else LivelyMaker.lively_head(self)


def changing_calls(seed):
    """At most 30 made-up calls with one program, ahead of them all."""
    calls = [call for call in LivelyMaker(seed).calls() if call[0] in CHANGING]
    programs = [call for call in calls if call[0] == "program"]
    return programs[:1] + [call for call in calls if call[0] != "program"][:29]


def entries_of(log):
    """The entries of a log's answer: a told fact's number, or (rule's number, row)."""
    found = []
    place = 1
    while place < len(log):
        if log[place] == 0:
            found.append(log[place + 1])
            place += 2
        else:
            end = place + 3 + log[place + 2]
            found.append((log[place + 1], tuple(log[place + 3:end])))
            place = end
    return found


def text_of(answer):
    """The form that fact answers."""
    return bytes(answer[2:]).decode()


def gone_through(program, entries, told):
    """The bag and the status that come of a log's entries, from the empty bag; told gives the told facts' texts."""
    rules = model_program(program)[0]
    come, living, remembered, failed = [], [], [], 0
    for entry in entries:
        if isinstance(entry, int):
            assert entry == len(come)
            new, gone = [pattern(cut(told[entry])[0])], ()
        else:
            number, row = entry
            assert entry not in remembered and not failed and set(row) <= set(living)
            new, gone = use_of(rules[number], [come[fact] for fact in row]), row[len(rules[number].kept):]
            if rules[number].fails:
                failed, gone = 1, ()
            elif not gone:
                remembered.append(entry)
        living = [fact for fact in living if fact not in gone] + list(range(len(come), len(come) + len(new)))
        come += new
    bag = [0]
    for fact in living:
        bag += [fact, len(form(come[fact])), *form(come[fact]).encode()]
    return [form(fact) for fact in come], bag, [0, len(living), len(come), len(entries), len(remembered), failed]


def views(calls):
    """The answers to VIEW behind each call."""
    found = []
    for call in calls:
        found.append(call)
        found.extend(VIEW)
    answers = ask(*found)
    every = len(VIEW) + 1
    return [answers[place + 1:place + every] for place in range(0, len(answers), every)]


class NoDeedWithoutARun(unittest.TestCase):
    def test_made_up(self):
        with_deeds = 0
        for seed in range(150):
            for view in views(changing_calls(seed)):
                if view[4][6] == 0:
                    self.assertEqual((view[0], view[2]), ([0, 0], [0, 0]), seed)
                with_deeds += view[2][1] > 0
        self.assertGreater(with_deeds, 50)

    def test_by_hand(self):
        told = [("tell", "a(3)"), ("tell", "a(2)"), ("tellall", "a(1), b, a(0)"), ("begin", "b"), ("steps", 20000)]
        for program in ("rule r { keep a(X), a(Y); if X < Y; }", "rule r { keep b; take a(X); put b; }", COUNT, "",
                        "rule r { keep b; take b; put c; } rule s { keep c, a(X); take a(Y); if X <= Y; put a(X + Y); }"):
            for place in range(len(told) + 1):
                found = ask(("program", program), *told[:place], ("deeds",), ("status",))
                if found[-1][6] == 0:
                    self.assertEqual(found[-2], [0, 0], (program, place))


class TheLogBringsTheBag(unittest.TestCase):
    def check(self, calls):
        """Goes through the log of the bag that the calls leave."""
        log, status, bag = ask(*calls, ("log",), ("status",), ("bag",))[-3:]
        entries = entries_of(log)
        told = {n: text_of(ask_last(*calls, ("fact", n))) for n in entries if isinstance(n, int)}
        come, expected_bag, expected_status = gone_through(calls[0][1], entries, told)
        self.assertEqual((bag, status[:6]), (expected_bag, expected_status), calls)
        facts = ask_behind(calls, [("fact", number) for number in range(len(come))])
        self.assertEqual([text_of(answer) for answer in facts], come, calls)
        return len(entries)

    def test_made_up(self):
        entries = [self.check(changing_calls(seed)) for seed in range(150)]
        self.assertGreater(sum(entries), 1000)

    def test_in_the_midst_of_runs(self):
        for seed in range(40):
            calls = changing_calls(seed)
            for end in range(1, len(calls), 7):
                self.check(calls[:end])

    def test_by_hand(self):
        for calls, entries in (
                ([("program", EUCLID), ("tellall", "g(6), g(4)")], 6),
                ([("program", COUNT), ("tell", "a(199)")], 200),
                ([("program", CLASH), ("tell", "p(1)"), ("begin", "q(1)"), ("steps", 9)], 3),
                ([("program", CLASH), ("tell", "p(1)"), ("begin", "q(1)"), ("steps", 9), ("quit",)], 1),
                ([("program", CLASH), ("tell", "p(1)"), ("tell", "q(1)")], 1)):
            self.assertEqual(self.check(calls), entries)


class BeginAndStepsBringWhatTellBrings(unittest.TestCase):
    def same(self, before, fact):
        """Compares a run that is told with the same run gone through in steps; answers what tell answers."""
        told = ask(*before, ("tell", fact), *VIEW)[len(before):]
        if told[0][0] < 0:
            self.same_as_refused(before, fact, told)
            return told[0]
        number, deeds, steps = told[0][1:]
        begun = ask(*before, ("begin", fact), ("steps", 20000), *VIEW)[len(before):]
        self.assertEqual(begun, [[0, number], [0, steps, deeds, 1]] + told[1:])
        some = 1 + steps // 50
        bits = ask(*before, ("begin", fact), *[("steps", some), ("step",)] * (1 + steps // (some + 1)), *VIEW)
        self.assertEqual(bits[-len(VIEW):], told[1:])
        if steps < 180:
            slow = ask(*before, ("begin", fact), *[("step",)] * steps, *VIEW)[len(before):]
            self.assertEqual(slow[-len(VIEW):], told[1:])
            self.assertEqual(sum(answer[1] == 4 for answer in slow[1:1 + steps]), deeds)
        return told[0]

    def same_as_refused(self, before, fact, told):
        """A run that is refused is just as if it had been given up."""
        begun = ask(*before, ("begin", fact), ("steps", 20000), ("step",), ("quit",), *VIEW)[len(before):]
        self.assertEqual(begun[-len(VIEW):], told[1:])
        if begun[0][0] < 0:
            self.assertEqual(begun[0], told[0])
        else:
            self.assertEqual(begun[1][3], 2 if told[0] == [-15] else 3)
            self.assertEqual(begun[2], [-5] if told[0] == [-15] else told[0])

    def test_made_up(self):
        seen = set()
        for seed in range(150):
            maker = LivelyMaker(seed)
            calls = [("program", maker.lively_program())]
            for number in range(6):
                fact = maker.lively_fact()
                answer = self.same(calls, fact)
                seen.add(answer[0])
                if answer[0] == 0:
                    calls.append(("tell", fact))
        self.assertEqual(seen, {0, -6, -7, -15})

    def test_by_hand(self):
        self.assertEqual(self.same([("program", EUCLID), ("tell", "g(6)")], "g(4)"), [0, 1, 4, 16])
        self.assertEqual(self.same([("program", CLASH), ("tell", "p(1)")], "q(1)"), [-15])
        self.assertEqual(self.same([("program", COUNT)], "a(40)"), [0, 0, 40, 83])
        self.assertEqual(self.same([("program", COUNT)], "a(200)"), [-7])
        self.assertEqual(self.same([("program", COUNT), ("tellall", "x" + ", x" * 15)], "a(200)"), [-6])

    def test_tellall_is_one_tell_after_the_other(self):
        for seed in range(100):
            maker = LivelyMaker(seed)
            program = ("program", maker.lively_program())
            facts = [maker.lively_fact() for number in range(5)]
            told = ask(program, *[("tell", fact) for fact in facts], *VIEW)[1:]
            whole = ask(program, ("tellall", ", ".join(facts)), *VIEW)[1:]
            if whole[0][0] == 0:
                sums = [sum(answer[place] for answer in told[:5]) for place in (2, 3)]
                self.assertEqual(whole, [[0, 5] + sums] + told[5:])
            else:
                first = [answer for answer in told[:5] if answer[0] < 0][0]
                self.assertEqual(whole, [first] + ask(program, *VIEW)[1:])


class NextAndDeeds(unittest.TestCase):
    """What next answers is the first of the deeds with that fact at that head."""

    def check(self, calls, rules):
        given, deeds = ask(*calls, ("status",), ("deeds",))[-2:]
        rows = entries_of([0] + self.as_log(deeds))
        if deeds[1] > 100 or given[0] < 0:
            return 0
        asked = [(fact, number, head) for fact in range(given[2]) for number in range(len(rules))
                 for head in range(len(rules[number].heads))]
        found = ask_behind(calls, [("next", *one) for one in asked])
        for (fact, number, head), answer in zip(asked, found):
            fitting = [row for rule, row in rows if rule == number and row[head] == fact]
            if answer != [-8]:
                self.assertEqual(answer, [0, number, len(fitting[0]), *fitting[0]] if fitting else [1])
            else:
                self.assertEqual(fitting, [])
        return len(rows)

    def as_log(self, deeds):
        """The answer of deeds with the 1 that stands before a deed in a log."""
        log = []
        place = 2
        while place < len(deeds):
            end = place + 2 + deeds[place + 1]
            log += [1] + deeds[place:end]
            place = end
        return log

    def test_made_up(self):
        deeds = 0
        for seed in range(120):
            maker = WaitingMaker(seed)
            program = maker.lively_program()
            calls = [("program", program), *[("tell", maker.lively_fact()) for number in range(6)], ("begin", "go")]
            for steps in range(4):
                deeds += self.check(calls + [("step",)] * steps, model_program(program)[0])
        self.assertGreater(deeds, 300)


if __name__ == "__main__":
    unittest.main()
