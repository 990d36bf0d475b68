"""Deeds: a deed is (rule's number, row), its row a tuple of the numbers of living facts."""

from orderedrules.bag import add_fact
from orderedrules.expressions import holds, worth
from orderedrules.patterns import matches


def is_use(rule, binding):
    """Whether facts that gave this binding to the rule's heads are a use of it."""
    for test in rule.tests:
        if not holds(test, binding):
            return False
    for put in rule.puts:
        if worth(put, binding) is None:
            return False
    return True


def first_row(bag, rules, number, choices, row, binding):
    """The first row of a deed that can be done, or None.

    The row so far has this binding; choices has, for each head, the numbers that may
    stand for it, rising, so that the rows are tried in the order of deeds.
    """
    heads = rules[number].heads
    if len(row) == len(heads):
        can_be_done = (number, row) not in bag.remembered and is_use(rules[number], binding)
        return row if can_be_done else None
    for fact in choices[len(row)]:
        if fact in row:
            continue
        tried = dict(binding)
        if matches(heads[len(row)], bag.facts[fact], tried):
            found = first_row(bag, rules, number, choices, row + (fact,), tried)
            if found is not None:
                return found
    return None


def first_deed(bag, rules, number, fact, head):
    """The first deed of the rule that can be done with the fact at the head, or None."""
    if bag.failed:
        return None
    choices = [bag.living for pattern in rules[number].heads]
    choices[head] = [fact]
    row = first_row(bag, rules, number, choices, (), {})
    return None if row is None else (number, row)


def deed_answer(deed):
    return [deed[0], len(deed[1])] + list(deed[1])


def binding_of(bag, rule, row):
    binding = {}
    for head, fact in zip(rule.heads, row):
        matches(head, bag.facts[fact], binding)
    return binding


def do_deed(bag, rules, deed):
    """Does the deed, which is the log's next entry; answers the numbers that have come."""
    rule = rules[deed[0]]
    bag.entries.append([1] + deed_answer(deed))
    if rule.fails:
        bag.failed = True
        return []
    binding = binding_of(bag, rule, deed[1])
    taken = deed[1][rule.kept:]
    bag.living = [fact for fact in bag.living if fact not in taken]
    if not taken:
        bag.remembered[deed] = True
    came = []
    for put in rule.puts:
        came.append(add_fact(bag, worth(put, binding)))
    return came
