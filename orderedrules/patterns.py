"""Values and patterns.

A number is a whole number, a term is a tuple of its word and its arguments, and in
patterns an unknown is a text. So a value is a pattern without texts but the words.
"""

from orderedrules.reader import Reader, read_arguments
from orderedrules.tokens import Fault

MOST_PARTS = 20
MOST_DEPTH = 6


def read_pattern(reader):
    if reader.ahead() == "-":
        reader.expect("-")
        return -reader.expect("number")
    if reader.ahead() in ("number", "unknown"):
        return reader.expect(reader.ahead())
    word = reader.expect("word")
    return tuple([word] + read_arguments(reader, read_pattern))


def is_term(pattern):
    return isinstance(pattern, tuple)


def unknowns_of(pattern):
    """The unknowns of a pattern, from the left."""
    if isinstance(pattern, str):
        return [pattern]
    found = []
    if is_term(pattern):
        for argument in pattern[1:]:
            found.extend(unknowns_of(argument))
    return found


def parts_of(pattern):
    if is_term(pattern):
        return 1 + sum([parts_of(argument) for argument in pattern[1:]])
    return 1


def depth_of(pattern):
    if is_term(pattern):
        return 1 + max([depth_of(argument) for argument in pattern[1:]], default=0)
    return 1


def is_small_enough(pattern):
    return parts_of(pattern) <= MOST_PARTS and depth_of(pattern) <= MOST_DEPTH


def is_fact(pattern):
    return is_term(pattern) and not unknowns_of(pattern) and is_small_enough(pattern)


def read_patterns(text):
    """The patterns of a text that is patterns with commas between; raises its fault."""
    reader = Reader(text)
    found = [read_pattern(reader)]
    while reader.ahead() == ",":
        reader.expect(",")
        found.append(read_pattern(reader))
    reader.expect("end")
    return found


def facts_in(text):
    """The facts of a text that is facts' texts with commas between; else none."""
    try:
        found = read_patterns(text)
    except Fault:
        return []
    for pattern in found:
        if not is_fact(pattern):
            return []
    return found


def lone_fact_in(text):
    """The one fact of a text that is a fact's text, as a list; else none."""
    found = facts_in(text)
    return found if len(found) == 1 else []


def matches(pattern, value, binding):
    """Whether they match; the binding takes up what the pattern's unknowns get."""
    if isinstance(pattern, str):
        if pattern not in binding:
            binding[pattern] = value
        return binding[pattern] == value
    if not is_term(pattern) or not is_term(value):
        return pattern == value
    if pattern[0] != value[0] or len(pattern) != len(value):
        return False
    for place in range(1, len(pattern)):
        if not matches(pattern[place], value[place], binding):
            return False
    return True
