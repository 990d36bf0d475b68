"""The calls that only ask: none of them changes what is held."""

from orderedrules.deeds import all_deeds, deed_answer, first_deed
from orderedrules.forms import pattern_form
from orderedrules.refusals import NO_FACT, NO_HEAD, NO_RULE

MOST_DEEDS_ANSWERED = 100


def in_a_row(rows):
    """The numbers of all the rows, one row behind the other."""
    numbers = []
    for row in rows:
        numbers.extend(row)
    return numbers


def ask_pile(session):
    topmost_first = list(reversed(session.pile))
    return [0, len(topmost_first)] + in_a_row(topmost_first)


def ask_next(session, fact, number, head):
    rules = session.program.rules
    if fact not in session.bag.living:
        return [NO_FACT]
    if number < 0 or number >= len(rules):
        return [NO_RULE]
    if head < 0 or head >= len(rules[number].heads):
        return [NO_HEAD]
    deed = first_deed(session.bag, rules, number, fact, head)
    return [1] if deed is None else [0] + deed_answer(deed)


def numbered_form(bag, fact):
    form = pattern_form(bag.facts[fact])
    return [fact, len(form)] + form


def ask_bag(session):
    bag = session.bag
    return [0] + in_a_row([numbered_form(bag, fact) for fact in bag.living])


def ask_fact(session, fact):
    bag = session.bag
    if fact < 0 or fact >= len(bag.facts):
        return [NO_FACT]
    living = 1 if fact in bag.living else 0
    return [0, living] + pattern_form(bag.facts[fact])


def ask_deeds(session):
    deeds = all_deeds(session.bag, session.program.rules)
    return [0, len(deeds)] + in_a_row([deed_answer(deed) for deed in deeds[:MOST_DEEDS_ANSWERED]])


def ask_log(session):
    return [0] + in_a_row(session.bag.entries)


def ask_status(session):
    bag = session.bag
    failed = 1 if bag.failed else 0
    on_its_way = 1 if session.before is not None else 0
    return [0, len(bag.living), len(bag.facts), len(bag.entries), len(bag.remembered), failed, on_its_way]
