"""Going through a text's tokens from the left."""

from orderedrules.tokens import Fault, cut

MOST_BRACKETS = 20


class Reader:
    """The tokens of a text, how many are gone past, and how many brackets stand unclosed."""

    def __init__(self, text):
        self.tokens = cut(text)
        self.past = 0
        self.unclosed = 0

    def ahead(self):
        """The kind of the token that comes now."""
        return self.tokens[self.past][0]

    def where(self):
        """The place of the token that comes now."""
        return self.tokens[self.past][2]

    def expect(self, kind):
        """Goes past a token of this kind, and answers its detail."""
        if self.ahead() != kind:
            raise Fault(3, self.where())
        detail = self.tokens[self.past][1]
        self.past += 1
        return detail

    def expect_one_of(self, kinds):
        """Goes past a token of one of these kinds, and answers which."""
        kind = self.ahead()
        if kind not in kinds:
            raise Fault(3, self.where())
        self.past += 1
        return kind

    def enter_bracket(self):
        place = self.where()
        self.expect("(")
        if self.unclosed == MOST_BRACKETS:
            raise Fault(4, place)
        self.unclosed += 1

    def leave_bracket(self):
        self.expect(")")
        self.unclosed -= 1


def read_arguments(reader, read_one):
    """What stands in the brackets behind a word, as a list; empty where no bracket stands."""
    found = []
    if reader.ahead() == "(":
        reader.enter_bracket()
        found.append(read_one(reader))
        while reader.ahead() == "," and len(found) < 3:
            reader.expect(",")
            found.append(read_one(reader))
        reader.leave_bracket()
    return found
