"""The faults of a program's text."""

from orderedrules.expressions import is_written_as_term, places_of_unknowns
from orderedrules.forms import program_form
from orderedrules.patterns import is_term, unknowns_of
from orderedrules.programs import read_program
from orderedrules.tokens import LONGEST_TEXT, Fault

MOST_RULES = 12
MOST_LEVELS = 12
GREATEST_LEVEL = 5
MOST_HEADS = 3
MOST_TESTS = 4
MOST_PUTS = 4


def repeated_places(named):
    """The places of the names that stood earlier, of a list of (name, place)."""
    seen = {}
    places = []
    for name, place in named:
        if name in seen:
            places.append(place)
        seen[name] = True
    return places


def count_faults(rule):
    numbers = []
    if len(rule.heads) == 0:
        numbers.append(13)
    if len(rule.heads) > MOST_HEADS:
        numbers.append(14)
    if len(rule.tests) > MOST_TESTS:
        numbers.append(15)
    if len(rule.puts) > MOST_PUTS:
        numbers.append(16)
    return [(rule.place, number) for number in numbers]


def term_faults(rule):
    found = []
    for place, head in zip(rule.head_places, rule.heads):
        if not is_term(head):
            found.append((place, 17))
    for place, put in zip(rule.put_places, rule.puts):
        if not is_written_as_term(put):
            found.append((place, 18))
    return found


def unknown_faults(rule):
    known = {}
    for head in rule.heads:
        for name in unknowns_of(head):
            known[name] = True
    asked = []
    for test in rule.tests:
        asked.extend(places_of_unknowns(test[0]))
        asked.extend(places_of_unknowns(test[2]))
    for put in rule.puts:
        asked.extend(places_of_unknowns(put))
    return [(place, 19) for name, place in asked if name not in known]


def rules_faults(rules):
    named = [(rule.name, rule.place) for rule in rules]
    found = [(place, 11) for place in repeated_places(named)]
    found.extend([(rule.place, 12) for rule in rules[MOST_RULES:]])
    for rule in rules:
        found.extend(count_faults(rule))
        found.extend(term_faults(rule))
        found.extend(unknown_faults(rule))
    return found


def levels_faults(levels):
    named = [(level.word, level.place) for level in levels]
    found = [(place, 22) for place in repeated_places(named)]
    found.extend([(level.number_place, 21) for level in levels if level.number > GREATEST_LEVEL])
    found.extend([(level.place, 23) for level in levels[MOST_LEVELS:]])
    return found


def faults_of(text):
    """The faults of a text, each as (number, place), in order; none if it is a program."""
    try:
        program = read_program(text)
    except Fault as fault:
        return [(fault.number, fault.place)]
    found = sorted(rules_faults(program.rules) + levels_faults(program.levels))
    if not found and len(program_form(program)) > LONGEST_TEXT:
        found = [(len(text), 25)]
    return [(number, place) for place, number in found]
