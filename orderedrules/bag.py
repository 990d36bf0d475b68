"""The bag: facts with numbers, remembered deeds, and the log."""

from orderedrules.refusals import LOG_IS_FULL, TOO_MUCH

MOST_LIVING = 16
MOST_NUMBERS = 300
MOST_ENTRIES = 200


class Bag:
    """All facts by their numbers, the living numbers rising, and what was done.

    A log's entry is a list as it is answered: 0 and a number, or 1 and a deed.
    """

    def __init__(self):
        self.facts = []
        self.living = []
        self.remembered = {}
        self.failed = False
        self.entries = []


def copy_of(bag):
    twin = Bag()
    twin.facts = list(bag.facts)
    twin.living = list(bag.living)
    twin.remembered = dict(bag.remembered)
    twin.failed = bag.failed
    twin.entries = list(bag.entries)
    return twin


def add_fact(bag, fact):
    """The fact comes; answers its number."""
    number = len(bag.facts)
    bag.facts.append(fact)
    bag.living.append(number)
    return number


def tell_fact(bag, fact):
    """The fact comes, which is the log's next entry; answers its number."""
    number = add_fact(bag, fact)
    bag.entries.append([0, number])
    return number


def refusal_of_change(bag, gone, came):
    """Why a log's entry can't be, by which so many facts go and come; 0 if it can."""
    if len(bag.living) - gone + came > MOST_LIVING or len(bag.facts) + came > MOST_NUMBERS:
        return TOO_MUCH
    if len(bag.entries) >= MOST_ENTRIES:
        return LOG_IS_FULL
    return 0
