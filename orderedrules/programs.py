"""Programs: rules and level items, with the places that faults are told at."""

from orderedrules.expressions import read_expression, read_test
from orderedrules.patterns import read_pattern
from orderedrules.reader import Reader


class Rule:
    """A rule; its heads are the kept ones and then the taken ones."""

    def __init__(self, name, place):
        self.name = name
        self.place = place
        self.heads = []
        self.head_places = []
        self.kept = 0
        self.tests = []
        self.puts = []
        self.put_places = []
        self.fails = False


class Level:
    """A level item."""

    def __init__(self, word, place, number, number_place):
        self.word = word
        self.place = place
        self.number = number
        self.number_place = number_place


class Program:
    """The rules and the level items of a text, each in order."""

    def __init__(self):
        self.rules = []
        self.levels = []


def read_placed(reader, read_one):
    place = reader.where()
    return (place, read_one(reader))


def read_part(reader, word, read_one):
    """What stands in a rule's part, each as (place, thing); none if the part is left out."""
    found = []
    if reader.ahead() == word:
        reader.expect(word)
        found.append(read_placed(reader, read_one))
        while reader.ahead() == ",":
            reader.expect(",")
            found.append(read_placed(reader, read_one))
        reader.expect(";")
    return found


def read_heads(reader, rule, word):
    for place, head in read_part(reader, word, read_pattern):
        rule.heads.append(head)
        rule.head_places.append(place)


def read_puts(reader, rule):
    if reader.ahead() == "fail":
        reader.expect("fail")
        reader.expect(";")
        rule.fails = True
        return
    for place, put in read_part(reader, "put", read_expression):
        rule.puts.append(put)
        rule.put_places.append(place)


def read_rule(reader):
    reader.expect("rule")
    place = reader.where()
    rule = Rule(reader.expect("word"), place)
    reader.expect("{")
    read_heads(reader, rule, "keep")
    rule.kept = len(rule.heads)
    read_heads(reader, rule, "take")
    rule.tests = [placed[1] for placed in read_part(reader, "if", read_test)]
    read_puts(reader, rule)
    reader.expect("}")
    return rule


def read_level(reader):
    reader.expect("level")
    place = reader.where()
    word = reader.expect("word")
    number_place = reader.where()
    number = reader.expect("number")
    reader.expect(";")
    return Level(word, place, number, number_place)


def read_program(text):
    """The program of a text; raises the fault of 1 to 4 that the text has."""
    reader = Reader(text)
    program = Program()
    while reader.ahead() != "end":
        if reader.ahead() == "level":
            program.levels.append(read_level(reader))
        else:
            program.rules.append(read_rule(reader))
    return program
