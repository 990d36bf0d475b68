"""How the tests speak with the desk: calls by their names, texts as texts."""

from orderedrules.desk import answers

NUMBERS = {"program": 0, "tell": 1, "tellall": 2, "begin": 3, "step": 4, "steps": 5, "quit": 6}


def as_bytes(text):
    """A text as a list of bytes; a list stays as it is."""
    return list(text.encode("latin-1")) if isinstance(text, str) else list(text)


def encode(calls):
    """The one list of calls such as ("tell", "a(1)"), ("steps", 5) or ("quit",)."""
    row = []
    for call in calls:
        row.append(NUMBERS[call[0]])
        for given in call[1:]:
            if isinstance(given, int):
                row.append(given)
            else:
                row.append(len(given))
                row.extend(as_bytes(given))
    return row


def decode(row):
    """The answers, each as a list."""
    found = []
    place = 0
    while place < len(row):
        end = place + 1 + row[place]
        found.append(row[place + 1:end])
        place = end
    return found


def ask(*calls):
    """What the calls on a new object answer, each as a list."""
    return decode(answers(encode(calls)))


def ask_last(*calls):
    return ask(*calls)[-1]
