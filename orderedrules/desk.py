"""The calls on one new object, in one list of whole numbers, and their answers in another."""

from orderedrules.questions import ask_bag, ask_deeds, ask_fact, ask_log, ask_next, ask_pile, ask_status
from orderedrules.refusals import NO_PROGRAM
from orderedrules.session import Session, begin, give_up, step_often, step_once, take_program, tell, tell_all

PROGRAM = 0
TELL = 1
TELLALL = 2
BEGIN = 3
STEP = 4
STEPS = 5
QUIT = 6
PILE = 7
NEXT = 8
BAG = 9
FACT = 10
DEEDS = 11
LOG = 12
STATUS = 13


def end_of_call(calls, place):
    """The place behind the call that begins at this place of the list."""
    if calls[place] in (PROGRAM, TELL, TELLALL, BEGIN):
        return place + 2 + calls[place + 1]
    if calls[place] == NEXT:
        return place + 4
    if calls[place] in (STEPS, FACT):
        return place + 2
    return place + 1


def answer_to_question(session, call):
    """Answers a call that changes nothing."""
    number = call[0]
    if number == PILE:
        return ask_pile(session)
    if number == NEXT:
        return ask_next(session, call[1], call[2], call[3])
    if number == BAG:
        return ask_bag(session)
    if number == FACT:
        return ask_fact(session, call[1])
    if number == DEEDS:
        return ask_deeds(session)
    if number == LOG:
        return ask_log(session)
    if number == STATUS:
        return ask_status(session)
    raise KeyError(number)


def answer(session, call):
    """Answers a call that is cut out of the list: its number, then what is handed to it."""
    number = call[0]
    if number == PROGRAM:
        return take_program(session, call[2:])
    if session.program is None:
        return [NO_PROGRAM]
    if number == TELL:
        return tell(session, call[2:])
    if number == TELLALL:
        return tell_all(session, call[2:])
    if number == BEGIN:
        return begin(session, call[2:])
    if number == STEP:
        return step_once(session)
    if number == STEPS:
        return step_often(session, call[1])
    if number == QUIT:
        return give_up(session)
    return answer_to_question(session, call)


def answers(calls):
    """For each call, in order: how many numbers are answered, and these."""
    session = Session()
    given = []
    place = 0
    while place < len(calls):
        end = end_of_call(calls, place)
        answered = answer(session, calls[place:end])
        given.append(len(answered))
        given.extend(answered)
        place = end
    return given
