"""Forms, as lists of bytes."""

from orderedrules.expressions import SUM_SIGNS, take_last
from orderedrules.patterns import is_term

OPERATOR_BYTES = {"+": 43, "-": 45, "*": 42, "/": 47, "mod": 37}

# How loosely an expression holds together: brackets are set by comparing these.
ATOM = 0
SIGNED = 1
PRODUCT = 2
SUM = 3


def bytes_of(text):
    return [ord(sign) for sign in text]


def joined(forms):
    """The forms with a comma and a blank between neighbours."""
    row = []
    for place, form in enumerate(forms):
        if place > 0:
            row.extend(bytes_of(", "))
        row.extend(form)
    return row


def term_form(word, arguments):
    if not arguments:
        return bytes_of(word)
    return bytes_of(word + "(") + joined(arguments) + bytes_of(")")


def pattern_form(pattern):
    """The form of a pattern, and so of a value too."""
    if is_term(pattern):
        return term_form(pattern[0], [pattern_form(argument) for argument in pattern[1:]])
    return bytes_of(str(pattern))


def within(form, looseness, most):
    """The form, with brackets round it if it is looser than may stand there."""
    if looseness > most:
        return bytes_of("(") + form + bytes_of(")")
    return form


def form_of_two(sign, first, second):
    """The form and the looseness of an operator with two arguments, told likewise."""
    if sign in SUM_SIGNS:
        looseness = SUM
    else:
        looseness = PRODUCT
    left = within(first[0], first[1], looseness)
    right = within(second[0], second[1], looseness - 1)
    return (left + [32, OPERATOR_BYTES[sign], 32] + right, looseness)


def form_of_part(part, forms):
    """The form and the looseness of a part; takes those of its arguments off the forms."""
    if part[0] in ("number", "unknown"):
        return (bytes_of(str(part[1])), ATOM)
    if part[0] == "term":
        arguments = take_last(forms, part[1][1])
        return (term_form(part[1][0], [argument[0] for argument in arguments]), ATOM)
    second = forms.pop()
    if part[0] == "minus":
        return (bytes_of("-") + within(second[0], second[1], ATOM), SIGNED)
    return form_of_two(part[0], forms.pop(), second)


def expression_form(expression):
    forms = []
    for part in expression:
        forms.append(form_of_part(part, forms))
    return forms[0][0]


def form_of_test(test):
    return expression_form(test[0]) + bytes_of(" " + test[1] + " ") + expression_form(test[2])


def part_form(word, forms):
    """The form of a rule's part; nothing if the rule hasn't this part."""
    if not forms:
        return []
    return bytes_of(" " + word + " ") + joined(forms) + bytes_of(";")


def rule_form(rule):
    form = bytes_of("rule " + rule.name + " {")
    form.extend(part_form("keep", [pattern_form(head) for head in rule.heads[:rule.kept]]))
    form.extend(part_form("take", [pattern_form(head) for head in rule.heads[rule.kept:]]))
    form.extend(part_form("if", [form_of_test(test) for test in rule.tests]))
    form.extend(part_form("put", [expression_form(put) for put in rule.puts]))
    if rule.fails:
        form.extend(bytes_of(" fail;"))
    return form + bytes_of(" }")


def level_form(level):
    return bytes_of("level " + level.word + " " + str(level.number) + ";")


def program_form(program):
    form = []
    for rule in program.rules:
        form.extend(rule_form(rule) + [10])
    for level in program.levels:
        form.extend(level_form(level) + [10])
    return form
