"""How the tests speak with the desk: calls by their names, texts as texts."""

from orderedrules.desk import answers

NUMBERS = {
    "program": 0, "tell": 1, "tellall": 2, "begin": 3, "step": 4, "steps": 5, "quit": 6,
    "pile": 7, "next": 8, "bag": 9, "fact": 10, "deeds": 11, "log": 12, "status": 13,
}

# The document's own examples.
EUCLID = "rule gcd { keep g(N); take g(M); if 0 < N, N <= M; put g(M - N); } rule done { take g(0); }"
CLASH = "rule no { keep p(X), q(X); fail; }"
# Counts a fact down to 0: so many deeds, one entry of the log each.
COUNT = "rule count { take a(N); if 0 < N; put a(N - 1); }"


def as_bytes(text):
    """A text as a list of bytes; a list stays as it is."""
    return list(text.encode("latin-1")) if isinstance(text, str) else list(text)


def encode(calls):
    """The one list of calls such as ("tell", "a(1)"), ("steps", 5) or ("quit",)."""
    row = []
    for call in calls:
        row.append(NUMBERS[call[0]])
        for given in call[1:]:
            if isinstance(given, int):
                row.append(given)
            else:
                row.append(len(given))
                row.extend(as_bytes(given))
    return row


def decode(row):
    """The answers, each as a list."""
    found = []
    place = 0
    while place < len(row):
        end = place + 1 + row[place]
        found.append(row[place + 1:end])
        place = end
    return found


def ask(*calls):
    """What the calls on a new object answer, each as a list."""
    row = encode(calls)
    if len(calls) > 200 or len(row) > 16000:
        raise ValueError("more than the document lets one hand in")
    return decode(answers(row))


def ask_behind(calls, asked):
    """What is answered to all that is asked behind the calls, asked in as many lists as that takes."""
    found = []
    most = 200 - len(calls)
    for first in range(0, len(asked), most):
        found += ask(*calls, *asked[first:first + most])[len(calls):]
    return found


def ask_last(*calls):
    return ask(*calls)[-1]
