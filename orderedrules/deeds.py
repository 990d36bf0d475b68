"""Deeds: a deed is (rule's number, row), its row a tuple of the numbers of living facts."""

from orderedrules.bag import add_fact
from orderedrules.expressions import holds, worth
from orderedrules.patterns import matches


def is_use(rule, binding):
    """Whether facts that gave this binding to the rule's heads are a use of it."""
    for test in rule.tests:
        if not holds(test, binding):
            return False
    for put in rule.puts:
        if worth(put, binding) is None:
            return False
    return True


def can_be_done(bag, rules, deed, binding):
    """Whether a row whose facts gave this binding makes a deed that can be done."""
    return not bag.failed and deed not in bag.remembered and is_use(rules[deed[0]], binding)


def matching_rows(bag, heads, choices):
    """The rows of numbers that the heads match, each with its binding, in the order of deeds.

    choices has, for each head, the numbers that may stand for it, rising.
    """
    rows = [((), {})]
    for head, numbers in zip(heads, choices):
        longer = []
        for row, binding in rows:
            for fact in numbers:
                tried = dict(binding)
                if fact not in row and matches(head, bag.facts[fact], tried):
                    longer.append((row + (fact,), tried))
        rows = longer
    return rows


def first_deed(bag, rules, number, fact, head):
    """The first deed of the rule that can be done with the fact at the head, or None."""
    heads = rules[number].heads
    choices = [bag.living for pattern in heads]
    choices[head] = [fact]
    for row, binding in matching_rows(bag, heads, choices):
        if can_be_done(bag, rules, (number, row), binding):
            return (number, row)
    return None


def all_deeds(bag, rules):
    """The deeds that can be done, in order."""
    found = []
    for number, rule in enumerate(rules):
        choices = [bag.living for head in rule.heads]
        for row, binding in matching_rows(bag, rule.heads, choices):
            if can_be_done(bag, rules, (number, row), binding):
                found.append((number, row))
    return found


def deed_answer(deed):
    return [deed[0], len(deed[1])] + list(deed[1])


def binding_of(bag, rule, row):
    binding = {}
    for head, fact in zip(rule.heads, row):
        matches(head, bag.facts[fact], binding)
    return binding


def do_deed(bag, rules, deed):
    """Does the deed, which is the log's next entry; answers the numbers that have come."""
    rule = rules[deed[0]]
    bag.entries.append([1] + deed_answer(deed))
    if rule.fails:
        bag.failed = True
        return []
    binding = binding_of(bag, rule, deed[1])
    taken = deed[1][rule.kept:]
    bag.living = [fact for fact in bag.living if fact not in taken]
    if not taken:
        bag.remembered[deed] = True
    came = []
    for put in rule.puts:
        came.append(add_fact(bag, worth(put, binding)))
    return came
