"""Expressions and tests.

An expression is kept as a list of parts in the order in which they are worked out, the
arguments ahead of what is done with them: sums may be as long as their text, so they are
gone through by loops. A part is (kind, detail, place): "number" with the number,
"unknown" with its name, "term" with its word and how many arguments it has, "minus" for
the sign of a signed one, or one of the operators between two.
"""

from orderedrules.patterns import is_small_enough
from orderedrules.reader import read_arguments

GREATEST_NUMBER = 999999999
SUM_SIGNS = ("+", "-")
PRODUCT_SIGNS = ("*", "/", "mod")
TEST_SIGNS = ("=", "<>", "<", "<=")


def read_term(reader):
    place = reader.where()
    word = reader.expect("word")
    arguments = read_arguments(reader, read_expression)
    expression = []
    for argument in arguments:
        expression.extend(argument)
    expression.append(("term", (word, len(arguments)), place))
    return expression


def read_atom(reader):
    if reader.ahead() in ("number", "unknown"):
        kind = reader.ahead()
        place = reader.where()
        return [(kind, reader.expect(kind), place)]
    if reader.ahead() == "(":
        reader.enter_bracket()
        expression = read_expression(reader)
        reader.leave_bracket()
        return expression
    return read_term(reader)


def read_signed(reader):
    if reader.ahead() != "-":
        return read_atom(reader)
    place = reader.where()
    reader.expect("-")
    expression = read_atom(reader)
    expression.append(("minus", None, place))
    return expression


def read_chain(reader, signs, read_one):
    expression = read_one(reader)
    while reader.ahead() in signs:
        place = reader.where()
        sign = reader.expect_one_of(signs)
        expression.extend(read_one(reader))
        expression.append((sign, None, place))
    return expression


def read_product(reader):
    return read_chain(reader, PRODUCT_SIGNS, read_signed)


def read_expression(reader):
    return read_chain(reader, SUM_SIGNS, read_product)


def read_test(reader):
    """A test: its first expression, its sign, its second expression."""
    first = read_expression(reader)
    sign = reader.expect_one_of(TEST_SIGNS)
    return (first, sign, read_expression(reader))


def is_written_as_term(expression):
    return expression[-1][0] == "term"


def places_of_unknowns(expression):
    """The unknowns of an expression, each as (name, place)."""
    return [(part[1], part[2]) for part in expression if part[0] == "unknown"]


def take_last(row, count):
    """Takes the last ones off a list, and answers them in their order."""
    first = len(row) - count
    last = row[first:]
    while len(row) > first:
        row.pop()
    return last


def worth_of_term(word, arguments):
    term = tuple([word] + arguments)
    return term if is_small_enough(term) else None


def worth_of_two(sign, first, second):
    if not isinstance(first, int) or not isinstance(second, int):
        return None
    if sign in ("/", "mod") and second == 0:
        return None
    if sign == "+":
        number = first + second
    elif sign == "-":
        number = first - second
    elif sign == "*":
        number = first * second
    elif sign == "/":
        number = first // second
    else:
        number = first % second
    return number if abs(number) <= GREATEST_NUMBER else None


def worth_of_done(kind, detail, worths):
    """What comes when this is done with the arguments at the end of the worths, or None."""
    if kind == "term":
        return worth_of_term(detail[0], take_last(worths, detail[1]))
    second = worths.pop()
    if kind == "minus":
        return worth_of_two("-", 0, second)
    return worth_of_two(kind, worths.pop(), second)


def worth(expression, binding):
    """The value that the expression is worth with the binding, or None."""
    worths = []
    for kind, detail, place in expression:
        if kind == "number":
            value = detail
        elif kind == "unknown":
            value = binding.get(detail)
        else:
            value = worth_of_done(kind, detail, worths)
        if value is None:
            return None
        worths.append(value)
    return worths[0]


def holds(test, binding):
    first = worth(test[0], binding)
    second = worth(test[2], binding)
    if first is None or second is None:
        return False
    if test[1] == "=":
        return first == second
    if test[1] == "<>":
        return first != second
    if not isinstance(first, int) or not isinstance(second, int):
        return False
    return first < second if test[1] == "<" else first <= second
