"""The program beside a slow model of the document, on many made-up texts and calls.

The model shares no code with the program and goes other ways: texts are told to be
programs by an Earley recogniser, expressions are read by Python's own parser, and deeds
are found by trying all permutations of the living facts.
"""

import ast
import copy
import itertools
import random
import re
import unittest

from orderedrules.faults import faults_of
from orderedrules.forms import program_form
from orderedrules.programs import read_program
from tests.helper import as_bytes, ask

RESERVED = "rule keep take if put fail level".split()
TOKEN = re.compile(r"[A-Za-z][A-Za-z0-9]*|[0-9]+|<=|<>|[(){},;+*/%=<-]")

GRAMMAR = {
    "program": ["", "program rule", "program level"],
    "level": ["level W N ;"],
    "rule": ["rule W { keeps takes ifs puts }"],
    "keeps": ["", "keep patterns ;"],
    "takes": ["", "take patterns ;"],
    "ifs": ["", "if tests ;"],
    "puts": ["", "put sums ;", "fail ;"],
    "patterns": ["pattern", "patterns , pattern"],
    "pattern": ["N", "- N", "U", "W", "W ( pattern )", "W ( pattern , pattern )",
                "W ( pattern , pattern , pattern )"],
    "tests": ["test", "tests , test"],
    "test": ["sum = sum", "sum <> sum", "sum < sum", "sum <= sum"],
    "sums": ["sum", "sums , sum"],
    "sum": ["product", "sum + product", "sum - product"],
    "product": ["signed", "product * signed", "product / signed", "product % signed"],
    "signed": ["atom", "- atom"],
    "atom": ["N", "U", "W", "W ( sum )", "W ( sum , sum )", "W ( sum , sum , sum )", "( sum )"],
}
# The words of the grammar that are reserved words of the texts and names of rows as well.
SHARED = {("level", 0), ("rule", 0)}


def cut(text):
    """The tokens as (text, place), or a fault as (number, place)."""
    tokens = []
    place = 0
    while place < len(text):
        if text[place] in " \n":
            place += 1
            continue
        found = TOKEN.match(text, place)
        if not found:
            return None, (1, place)
        token = found.group()
        if (token[0].isalpha() and len(token) > 10) or (token[0].isdigit() and len(token) > 9):
            return None, (2, place)
        tokens.append((token, place))
        place = found.end()
    return tokens, None


def kind(token):
    if token.isdigit():
        return "N"
    if token[0].isalpha() and token not in RESERVED:
        return "W" if token[0].islower() else "U"
    return "'" + token


def rows_of(grammar):
    """The grammar's rows, with ' before the texts' own tokens."""
    rows = {}
    for name, choices in grammar.items():
        rows[name] = []
        for choice in choices:
            signs = choice.split()
            row = []
            for place, sign in enumerate(signs):
                own = sign in "WNU" or (sign in grammar and not (place == 0 and (name, place) in SHARED))
                row.append(sign if own else "'" + sign)
            rows[name].append(tuple(row))
    return rows


ROWS = rows_of(GRAMMAR)


def close(chart, at):
    """Fills up the Earley items of one place."""
    items = chart[at]
    changed = True
    while changed:
        changed = False
        for name, row, dot, start in list(items):
            more = set()
            if dot < len(row) and row[dot] in ROWS:
                more = {(row[dot], new, 0, at) for new in ROWS[row[dot]]}
            elif dot == len(row):
                more = {(n, r, d + 1, s) for n, r, d, s in chart[start] if d < len(r) and r[d] == name}
            # Rows that may be empty are gone past at once.
            if dot < len(row) and () in ROWS.get(row[dot], []):
                more.add((name, row, dot + 1, start))
            if not more <= items:
                items |= more
                changed = True


def misplaced(tokens, length, top):
    """The fault 3 or 4 of the tokens, or None."""
    chart = [{(top, row, 0, 0) for row in ROWS[top]}]
    close(chart, 0)
    unclosed = 0
    for at, (token, place) in enumerate(tokens):
        moved = {(n, r, d + 1, s) for n, r, d, s in chart[at] if d < len(r) and r[d] == kind(token)}
        if not moved:
            return (3, place)
        unclosed += {"(": 1, ")": -1}.get(token, 0)
        if unclosed > 20:
            return (4, place)
        chart.append(moved)
        close(chart, at + 1)
    whole = any(n == top and d == len(r) and s == 0 for n, r, d, s in chart[-1])
    return None if whole else (3, length)


def split(tokens, signs):
    """The tokens between signs that stand in no brackets."""
    pieces = [[]]
    depth = 0
    for token in tokens:
        depth += {"(": 1, ")": -1}.get(token[0], 0)
        if depth == 0 and token[0] in signs:
            pieces.append([])
        else:
            pieces[-1].append(token)
    return pieces


def tree(tokens):
    """What Python's own parser makes of the tokens, as nested tuples."""
    words = []
    for token, place in tokens:
        if token.isdigit():
            words.append(str(int(token)))
        else:
            words.append({"W": "w_", "U": "u_"}.get(kind(token), "") + token)
    return plain(ast.parse(" ".join(words), mode="eval").body)


def plain(node):
    if isinstance(node, ast.Constant):
        return ("number", node.value)
    if isinstance(node, ast.Name):
        return ("unknown", node.id[2:]) if node.id.startswith("u_") else ("term", node.id[2:])
    if isinstance(node, ast.Call):
        return ("term", node.func.id[2:]) + tuple(plain(child) for child in node.args)
    if isinstance(node, ast.UnaryOp):
        return ("minus", plain(node.operand))
    sign = {ast.Add: "+", ast.Sub: "-", ast.Mult: "*", ast.Div: "/", ast.Mod: "%"}[type(node.op)]
    return (sign, plain(node.left), plain(node.right))


def names_in(node):
    if node[0] == "unknown":
        return {node[1]}
    return set().union(*[names_in(child) for child in node[1:] if isinstance(child, tuple)])


def form(node):
    if node[0] in ("number", "unknown"):
        return str(node[1])
    if node[0] == "term":
        return node[1] + ("(" + ", ".join(form(child) for child in node[2:]) + ")" if node[2:] else "")
    rank = {"minus": 1, "*": 2, "/": 2, "%": 2, "+": 3, "-": 3}
    ranks = [rank.get(child[0], 0) for child in node[1:]]
    texts = [form(child) for child in node[1:]]
    if node[0] == "minus":
        brackets = [ranks[0] in (1, 2, 3)]
    elif node[0] in "*/%":
        brackets = [ranks[0] == 3, ranks[1] in (2, 3)]
    else:
        brackets = [False, ranks[1] == 3]
    texts = ["(" + text + ")" if bracket else text for text, bracket in zip(texts, brackets)]
    return "-" + texts[0] if node[0] == "minus" else texts[0] + " " + node[0] + " " + texts[1]


def pattern(tokens):
    return signed_numbers(tree(tokens))


def signed_numbers(node):
    """The tree of a pattern, where a number with - ahead is one number."""
    if node[0] == "minus":
        return ("number", -node[1][1])
    return tuple(signed_numbers(child) if isinstance(child, tuple) else child for child in node)


def part_of(body, word):
    """The pieces of a rule's part."""
    for piece in split(body, ";"):
        if piece and piece[0][0] == word:
            return split(piece[1:], ",")
    return []


class ModelRule:
    def __init__(self, name, body):
        self.name, self.place = name
        kept, taken = part_of(body, "keep"), part_of(body, "take")
        self.kept, self.taken = [pattern(h) for h in kept], [pattern(h) for h in taken]
        self.head_places = [h[0][1] for h in kept + taken]
        self.heads = self.kept + self.taken
        tests, puts = part_of(body, "if"), part_of(body, "put")
        self.tests = []
        for test in tests:
            sign = [t for t in test if t[0] in ("=", "<>", "<", "<=")][0]
            halves = split(test, ("=", "<>", "<", "<="))
            self.tests.append((tree(halves[0]), sign[0], tree(halves[1])))
        self.puts, self.put_places = [tree(p) for p in puts], [p[0][1] for p in puts]
        self.asked = [t for piece in tests + puts for t in piece if kind(t[0]) == "U"]
        self.fails = any(t[0] == "fail" for t in body)

    def text(self):
        parts = [("keep", [form(h) for h in self.kept]), ("take", [form(h) for h in self.taken]),
                 ("if", [form(a) + " " + sign + " " + form(b) for a, sign, b in self.tests]),
                 ("put", [form(p) for p in self.puts])]
        found = "".join(" " + word + " " + ", ".join(forms) + ";" for word, forms in parts if forms)
        return "rule " + self.name + " {" + found + (" fail;" if self.fails else "") + " }\n"

    def faults(self, earlier):
        found = [(11, self.place)] if self.name in [rule.name for rule in earlier] else []
        heads, tests, puts = len(self.heads), len(self.tests), len(self.puts)
        met = {12: len(earlier) >= 12, 13: heads == 0, 14: heads > 3, 15: tests > 4, 16: puts > 4}
        found += [(number, self.place) for number in met if met[number]]
        found += [(17, place) for place, head in zip(self.head_places, self.heads) if head[0] != "term"]
        found += [(18, place) for place, put in zip(self.put_places, self.puts) if put[0] != "term"]
        known = set().union(*[names_in(head) for head in self.heads])
        return found + [(19, place) for name, place in self.asked if name not in known]


def model_program(text):
    """The rules, the levels and the faults of a text."""
    tokens, fault = cut(text)
    fault = fault or misplaced(tokens, len(text), "program")
    if fault:
        return [], [], [fault]
    rules, levels, faults = [], [], []
    at = 0
    while at < len(tokens):
        if tokens[at][0] == "level":
            word, number = tokens[at + 1], tokens[at + 2]
            met = {21: int(number[0]) > 5, 22: word[0] in [w for w, n in levels], 23: len(levels) >= 12}
            faults += [(n, number[1] if n == 21 else word[1]) for n in met if met[n]]
            levels.append((word[0], int(number[0])))
            at += 4
        else:
            end = [t[0] for t in tokens].index("}", at)
            rule = ModelRule(tokens[at + 1], tokens[at + 3:end])
            faults += rule.faults(rules)
            rules.append(rule)
            at = end + 1
    if not faults and len(model_form(rules, levels)) > 3000:
        faults = [(25, len(text))]
    return rules, levels, sorted(faults, key=lambda fault: (fault[1], fault[0]))


def model_form(rules, levels):
    return "".join(r.text() for r in rules) + "".join("level %s %d;\n" % level for level in levels)


class Nothing(Exception):
    pass


def size(value):
    """The parts and the depth of a value."""
    sizes = [size(child) for child in value[2:]] if value[0] == "term" else []
    return 1 + sum(s[0] for s in sizes), 1 + max([s[1] for s in sizes], default=0)


def worth(node, binding):
    if node[0] == "number":
        return node
    if node[0] == "unknown":
        return binding[node[1]]
    if node[0] == "term":
        value = node[:2] + tuple(worth(child, binding) for child in node[2:])
        if size(value)[0] > 20 or size(value)[1] > 6:
            raise Nothing
        return value
    given = [worth(child, binding) for child in node[1:]]
    if any(value[0] != "number" for value in given):
        raise Nothing
    a, b = (0, given[0][1]) if node[0] == "minus" else (given[0][1], given[1][1])
    if node[0] in "/%" and b == 0:
        raise Nothing
    number = {"minus": lambda: -b, "+": lambda: a + b, "-": lambda: a - b, "*": lambda: a * b,
              "/": lambda: a // b, "%": lambda: a - b * (a // b)}[node[0]]()
    if not -999999999 <= number <= 999999999:
        raise Nothing
    return ("number", number)


def fill(node, binding):
    if node[0] == "unknown":
        return binding[node[1]]
    return node[:2] + tuple(fill(child, binding) for child in node[2:])


def guess(node, value, binding):
    """Puts the first value that an unknown could have into the binding."""
    if node[0] == "unknown":
        binding.setdefault(node[1], value)
    elif node[0] == "term" and value[0] == "term":
        for child, part in zip(node[2:], value[2:]):
            guess(child, part, binding)


def use_of(rule, values):
    """The worths of the rule's puts, or None if the values are no use of it."""
    binding = {}
    for head, value in zip(rule.heads, values):
        guess(head, value, binding)
    try:
        if [fill(head, binding) for head in rule.heads] != list(values):
            return None
        for left, sign, right in rule.tests:
            a, b = worth(left, binding), worth(right, binding)
            if sign in ("<", "<=") and not a[0] == b[0] == "number":
                return None
            if not {"=": a == b, "<>": a != b, "<": a[1] < b[1] if sign == "<" else 0,
                    "<=": a[1] <= b[1] if sign == "<=" else 0}[sign]:
                return None
        return [worth(put, binding) for put in rule.puts]
    except (Nothing, KeyError):
        return None


class Model:
    """The object of the document, with all that it holds in one dict that is copied whole."""

    def __init__(self):
        self.rules = None
        self.held = None
        self.before = None

    def program(self, text):
        if len(text) > 3000:
            return [-1]
        rules, levels, faults = model_program(text)
        if faults:
            return [-2]
        self.rules, self.before = rules, None
        self.held = {"facts": [], "living": [], "log": [], "memory": [], "failed": False, "pile": []}
        return [0, len(rules)]

    def values(self, text):
        if len(text) > 3000:
            return -1
        tokens, fault = cut(text)
        if fault or misplaced(tokens, len(text), "patterns"):
            return -4
        values = [pattern(piece) for piece in split(tokens, ",")]
        if any(names_in(v) or v[0] != "term" or size(v)[0] > 20 or size(v)[1] > 6 for v in values):
            return -4
        return values

    def come(self, fact):
        held = self.held
        if len(held["living"]) == 16 or len(held["facts"]) == 300:
            return -6
        if len(held["log"]) == 200:
            return -7
        held["facts"].append(fact)
        number = len(held["facts"]) - 1
        held["living"].append(number)
        held["log"].append(("told", number))
        held["pile"] = [[number, 0, 0]]
        return number

    def start(self, text, one):
        """The values of a text that can be told, or a refusal."""
        if self.rules is None:
            return -3
        values = self.values(text)
        if one and isinstance(values, list) and len(values) != 1:
            return -4
        return -17 if isinstance(values, list) and self.before is not None else values

    def tellall(self, text, one=False):
        values = self.start(text, one)
        if isinstance(values, int):
            return [values]
        before = copy.deepcopy(self.held)
        steps = deeds = 0
        for fact in values:
            number = self.come(fact)
            refusal = min(number, 0)
            while self.held["pile"] and not refusal:
                happened = self.one_step()
                refusal = happened[0] if happened[0] < 0 else -15 if happened[0] == 5 else 0
                steps += 1
                deeds += happened[0] == 4
            if refusal:
                self.held = before
                return [refusal]
        return [0, number if one else len(values), deeds, steps]

    def tell(self, text):
        return self.tellall(text, True)

    def begin(self, text):
        values = self.start(text, True)
        if isinstance(values, int):
            return [values]
        before = copy.deepcopy(self.held)
        number = self.come(values[0])
        if number < 0:
            return [number]
        self.before = before
        return [0, number]

    def search(self, number, fact, head):
        rule = self.rules[number]
        for row in itertools.permutations(sorted(self.held["living"]), len(rule.heads)):
            if row[head] == fact and (number, row) not in self.held["memory"]:
                puts = use_of(rule, [self.held["facts"][n] for n in row])
                if puts is not None:
                    return row, puts
        return None

    def one_step(self):
        held = self.held
        task = held["pile"][0]
        fact, number, head = task
        if fact not in held["living"]:
            held["pile"].pop(0)
            return [0]
        if number >= len(self.rules):
            held["pile"].pop(0)
            return [3]
        rule = self.rules[number]
        if head >= len(rule.heads):
            held["pile"][0] = [fact, number + 1, 0]
            return [2]
        found = self.search(number, fact, head)
        if found is None:
            task[2] += 1
            return [1]
        row, puts = found
        taken = [] if rule.fails else row[len(rule.kept):]
        if len(held["living"]) - len(taken) + len(puts) > 16 or len(held["facts"]) + len(puts) > 300:
            return [-6]
        if len(held["log"]) == 200:
            return [-7]
        held["log"].append((number, row))
        if rule.fails:
            held["failed"], held["pile"] = True, []
            return [5, number, len(row), *row]
        held["living"] = [n for n in held["living"] if n not in taken]
        if not rule.taken:
            held["memory"].append((number, row))
        new = list(range(len(held["facts"]), len(held["facts"]) + len(puts)))
        held["facts"] += puts
        held["living"] += new
        held["pile"] = [[n, 0, 0] for n in new] + held["pile"]
        return [4, number, len(row), *row]

    def blocked(self):
        if self.rules is None:
            return [-3]
        return [-18] if self.before is None else [-5] if self.held["failed"] else None

    def step(self):
        refusal = self.blocked()
        if refusal:
            return refusal
        happened = self.one_step()
        self.settle()
        return happened if happened[0] < 0 else [0] + happened

    def settle(self):
        if not self.held["pile"] and not self.held["failed"]:
            self.before = None

    def steps(self, most):
        refusal = self.blocked() or ([-19] if not 0 <= most <= 20000 else None)
        if refusal:
            return refusal
        done = []
        while True:
            why = 2 if self.held["failed"] else 1 if not self.held["pile"] else 0 if len(done) == most else None
            if why is None:
                happened = self.one_step()
                why = 3 if happened[0] < 0 else None
                done += [] if why else [happened[0]]
            if why is not None:
                self.settle()
                return [0, len(done), sum(what >= 4 for what in done), why]

    def quit(self):
        if self.rules is None or self.before is None:
            return [-3] if self.rules is None else [-18]
        self.held, self.before = self.before, None
        return [0]

    def pile(self):
        if self.rules is None:
            return [-3]
        return [0, len(self.held["pile"])] + [number for task in self.held["pile"] for number in task]

    def next(self, fact, number, head):
        if self.rules is None:
            return [-3]
        if not any(fact == living for living in self.held["living"]):
            return [-8]
        if number not in range(len(self.rules)):
            return [-9]
        if head not in range(len(self.rules[number].heads)):
            return [-20]
        found = None if self.held["failed"] else self.search(number, fact, head)
        return [1] if found is None else [0, number, len(found[0]), *found[0]]

    def bag(self):
        if self.rules is None:
            return [-3]
        answer = [0]
        for number, fact in enumerate(self.held["facts"]):
            if number in self.held["living"]:
                answer += [number, len(form(fact)), *as_bytes(form(fact))]
        return answer

    def fact(self, number):
        if self.rules is None:
            return [-3]
        for given, fact in enumerate(self.held["facts"]):
            if given == number:
                return [0, int(number in self.held["living"]), *as_bytes(form(fact))]
        return [-8]

    def deeds(self):
        if self.rules is None:
            return [-3]
        held, found = self.held, []
        for number, rule in enumerate(self.rules):
            for row in itertools.permutations(held["living"], len(rule.heads)):
                if use_of(rule, [held["facts"][n] for n in row]) is not None and (number, row) not in held["memory"]:
                    found.append((number, len(row), *row))
        found = [] if held["failed"] else sorted(found)
        return [0, len(found), *itertools.chain(*found[:100])]

    def log(self):
        if self.rules is None:
            return [-3]
        answer = [0]
        for first, second in self.held["log"]:
            answer += [0, second] if first == "told" else [1, first, len(second), *second]
        return answer

    def status(self):
        if self.rules is None:
            return [-3]
        held = self.held
        counts = [len(held[name]) for name in ("living", "facts", "log", "memory")]
        return [0, *counts, int(held["failed"]), int(self.before is not None)]


def model_answers(calls):
    model = Model()
    return [getattr(model, call[0])(*call[1:]) for call in calls]


class Maker:
    """Made-up programs, facts and calls; the same for the same seed."""

    def __init__(self, seed):
        self.chance = random.Random(seed)
        self.words = ["a", "b", "c", "in"][:self.chance.randint(1, 4)]
        self.names = ["X", "Y", "Zz1"]

    def rare(self, often):
        return self.chance.randrange(often) == 0

    def arguments(self, make, depth):
        count = self.chance.choice([0, 1, 1, 1, 2, 3]) if depth else 0
        return "(" + ", ".join(make(depth - 1) for _ in range(count)) + ")" if count else ""

    def number(self):
        return self.chance.choice(["0", "1", "2", "3", "07", "10"] + (["999999999"] if self.rare(5) else []))

    def value(self, depth=2):
        if self.rare(2):
            return self.chance.choice(["", "", "-"]) + self.number()
        return self.fact(depth)

    def fact(self, depth=2):
        return self.chance.choice(self.words) + self.arguments(self.value, depth)

    def pattern(self, depth=2):
        if self.rare(2):
            return self.chance.choice(self.names)
        return self.head(depth) if self.rare(2) else self.value(depth)

    def head(self, depth=2):
        if self.rare(60):
            return self.chance.choice(["X", "5", "- 0"])
        return self.chance.choice(self.words) + self.arguments(self.pattern, depth)

    def expression(self, depth=2):
        choice = self.chance.randrange(9)
        if choice < 4 or depth == 0:
            return self.chance.choice(self.names[:2] if not self.rare(20) else self.names) if self.rare(2) else self.number()
        if choice == 4:
            return self.put(depth - 1)
        if choice == 5:
            return "(" + self.expression(depth - 1) + ")"
        if choice == 6:
            return "-(" + self.expression(depth - 1) + ")"
        return self.expression(depth - 1) + self.chance.choice("+-*/%") + self.expression(depth - 1)

    def put(self, depth=2):
        if self.rare(60):
            return self.chance.choice(["X", "1 + 1", "(X)"])
        text = self.chance.choice(self.words) + self.arguments(self.expression, depth)
        return "(" + text + ")" if self.rare(10) else text

    def test(self):
        return self.expression(2) + self.chance.choice(["=", "<>", "<", "<=", "<", "<>"]) + self.expression(1)

    def row(self, word, make, most):
        count = self.chance.randint(0, most)
        return word + " " + ", ".join(make() for _ in range(count)) + "; " if count else ""

    def rule(self, number):
        kept, taken = self.chance.choice([(1, 0), (1, 1), (0, 1), (2, 0), (0, 2), (1, 2), (2, 2)])
        text = self.row("keep", self.head, kept) + self.row("take", self.head, taken)
        text += self.row("if", self.test, self.chance.choice([0, 1, 1, 2, 5]))
        if self.rare(8):
            text += "fail; "
        else:
            text += self.row("put", self.put, self.chance.choice([1, 1, 2, 3, 5]))
        return "rule r%d { %s}\n" % (self.chance.randint(0, 9) if self.rare(20) else number, text)

    def program(self):
        count = self.chance.choice([0, 1, 1, 2, 2, 3, 4, 4, 13 if self.rare(6) else 3])
        pieces = [self.rule(number) for number in range(count)]
        for _ in range(self.chance.choice([0, 0, 0, 1, 2, 13 if self.rare(6) else 0])):
            level = "level %s%d %d;" % (self.chance.choice(self.words), self.chance.randint(0, 60),
                                        self.chance.randint(0, 5) if not self.rare(40) else 6)
            pieces.insert(self.chance.randint(0, len(pieces)), level)
        return "".join(pieces)

    def spoilt(self, text):
        """The text with some of its tokens left out, doubled or changed."""
        pieces = re.findall(r"\w+|\s+|<=|<>|.", text)
        for _ in range(self.chance.randint(1, 2)):
            if pieces:
                at = self.chance.randrange(len(pieces))
                other = self.chance.choice(pieces + [">", "toolongname", "0123456789", "(", "-", "keep", "X", "\t"])
                pieces[at:at + 1] = self.chance.choice([[], [pieces[at]] * 2, [other], [pieces[at], other]])
        return "".join(pieces)

    def sound_program(self):
        text = self.program()
        while faults_of(as_bytes(text)):
            text = self.program()
        return text


class LivelyMaker(Maker):
    """Programs of few words, each with a fixed count of arguments, so that many deeds are done."""

    COUNTS = {"a": 1, "b": 2, "c": 0}

    def term(self, make):
        word = self.chance.choice("aaabbc")
        given = [make() for _ in range(self.COUNTS[word])]
        return word + ("(" + ", ".join(given) + ")" if given else "")

    def lively_fact(self):
        return self.term(lambda: self.chance.choice(["0", "1", "2", "3", "-1", "c", "a(1)"]))

    def lively_head(self):
        return self.term(lambda: self.chance.choice(["X", "X", "Y", "Y", "Y", "1", "a(X)"]))

    def sum_of(self, known):
        if not known or self.rare(6):
            return self.number()
        name = self.chance.choice(known)
        return name + self.chance.choice(["", "", " + 1", " - 1", " * 2", " / 2", " % 3", " - " + self.chance.choice(known)])

    def lively_test(self, known):
        return self.sum_of(known) + self.chance.choice([" = ", " <> ", " <> ", " < ", " <= "]) + self.sum_of(known)

    def lively_rule(self, number):
        kept, taken = self.chance.choice([(1, 0), (1, 1), (1, 1), (0, 1), (0, 1), (2, 0), (0, 2), (1, 2), (2, 1), (3, 0)])
        heads = [self.lively_head() for _ in range(kept + taken)]
        known = [name for name in ("X", "Y") if name in "".join(heads)]
        text = "keep " + ", ".join(heads[:kept]) + "; " if kept else ""
        text += "take " + ", ".join(heads[kept:]) + "; " if taken else ""
        tests = [self.lively_test(known) for _ in range(self.chance.choice([0, 1, 1, 2]))]
        text += "if " + ", ".join(tests) + "; " if tests else ""
        puts = [self.term(lambda: self.sum_of(known)) for _ in range(self.chance.choice([0, 0, 1, 1, 1, 2, 3]))]
        if self.rare(12):
            text += "fail; "
        elif puts:
            text += "put " + ", ".join(puts) + "; "
        return "rule r%d { %s}" % (number, text)

    def lively_program(self):
        return " ".join(self.lively_rule(number) for number in range(self.chance.choice([1, 2, 2, 3, 4, 12])))

    def wild(self, most):
        return self.chance.choice([-1, -10 ** 18, 10 ** 18]) if self.rare(12) else self.chance.randint(0, most)

    def question(self):
        name = self.chance.choice("pile next next next bag fact deeds log status".split())
        given = {"next": (8, 2, 2), "fact": (12,)}.get(name, ())
        return (name, *[self.wild(most) for most in given])

    def call(self):
        if self.rare(2):
            return self.question()
        name = self.chance.choice("tell tell tell tellall begin begin step step step steps steps quit".split())
        if name in ("tell", "begin", "tellall"):
            text = self.lively_fact()
            if name == "tellall":
                text = ", ".join(self.lively_fact() for _ in range(self.chance.randint(1, 4)))
            return (name, self.spoilt(text) if self.rare(15) else text)
        if name == "steps":
            return (name, self.chance.choice([0, 1, 2, 3, 5, 8, 50, 20000, 20000, 20001, -1]))
        return (name,)

    def calls(self):
        calls = [] if not self.rare(9) else [self.call()]
        calls.append(("program", self.lively_program()))
        for _ in range(self.chance.choice([10, 40, 80])):
            calls.append(self.call())
            if self.rare(120):
                calls.append(("program", self.program()))
        return calls


class AgainstModel(unittest.TestCase):
    def test_faults_of_texts(self):
        for seed in range(400):
            maker = Maker(seed)
            text = maker.program()
            text = maker.spoilt(text) if seed % 2 else text
            with self.subTest(text=text):
                self.assertEqual(faults_of(as_bytes(text)), model_program(text)[2])

    def test_forms_of_programs(self):
        for seed in range(400):
            text = Maker(seed).sound_program()
            rules, levels, faults = model_program(text)
            with self.subTest(text=text):
                form_bytes = program_form(read_program(as_bytes(text)))
                self.assertEqual(form_bytes, as_bytes(model_form(rules, levels)))
                self.assertEqual(program_form(read_program(form_bytes)), form_bytes)

    def test_calls(self):
        for seed in range(600):
            calls = LivelyMaker(seed).calls()
            with self.subTest(seed=seed):
                self.assertEqual(ask(*calls), model_answers(calls))


if __name__ == "__main__":
    unittest.main()
