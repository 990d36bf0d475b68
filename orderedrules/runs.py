"""Steps and runs.

A task is (fact, rule, head). The pile is a list of tasks, the topmost last.
"""

from orderedrules.bag import refusal_of_change
from orderedrules.deeds import deed_answer, do_deed, first_deed

# What happened in a step.
TASK_IS_GONE = 0
NEXT_HEAD = 1
NEXT_RULE = 2
FACT_RESTS = 3
DEED_IS_DONE = 4
BAG_FAILS = 5

# Why going on ended. Where a step can't be done, its refusal says why.
ALL_STEPS_DONE = 0
AT_REST = 1
HAS_FAILED = 2
NO_STEP_CAN_BE = 3

MOST_STEPS = 20000


def first_task(fact):
    return (fact, 0, 0)


def step_by_deed(bag, rules, pile, deed):
    rule = rules[deed[0]]
    refusal = refusal_of_change(bag, len(rule.heads) - rule.kept, len(rule.puts))
    if refusal < 0:
        return [refusal]
    came = do_deed(bag, rules, deed)
    if bag.failed:
        pile.clear()
        return [BAG_FAILS] + deed_answer(deed)
    for fact in reversed(came):
        pile.append(first_task(fact))
    return [DEED_IS_DONE] + deed_answer(deed)


def do_step(bag, rules, pile):
    """Does a step with the task on top; answers what happened and the deed, or a refusal."""
    fact = pile[-1][0]
    number = pile[-1][1]
    head = pile[-1][2]
    if fact not in bag.living:
        pile.pop()
        return [TASK_IS_GONE]
    if number == len(rules):
        pile.pop()
        return [FACT_RESTS]
    if head == len(rules[number].heads):
        pile[-1] = (fact, number + 1, 0)
        return [NEXT_RULE]
    deed = first_deed(bag, rules, number, fact, head)
    if deed is None:
        pile[-1] = (fact, number, head + 1)
        return [NEXT_HEAD]
    return step_by_deed(bag, rules, pile, deed)


def go_on(bag, rules, pile, most):
    """Does step after step; answers how many steps, how many deeds, and why it ended."""
    steps = 0
    deeds = 0
    while True:
        if bag.failed:
            return (steps, deeds, HAS_FAILED)
        if not pile:
            return (steps, deeds, AT_REST)
        if steps == most:
            return (steps, deeds, ALL_STEPS_DONE)
        happened = do_step(bag, rules, pile)[0]
        if happened < 0:
            return (steps, deeds, happened)
        steps += 1
        if happened in (DEED_IS_DONE, BAG_FAILS):
            deeds += 1
