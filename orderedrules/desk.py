"""The calls on one new object, in one list of whole numbers, and their answers in another."""

from orderedrules.session import Session, begin, give_up, step_often, step_once, take_program, tell, tell_all

PROGRAM = 0
TELL = 1
TELLALL = 2
BEGIN = 3
STEP = 4
STEPS = 5
QUIT = 6


def end_of_call(calls, place):
    """The place behind the call that begins at this place of the list."""
    if calls[place] in (PROGRAM, TELL, TELLALL, BEGIN):
        return place + 2 + calls[place + 1]
    if calls[place] == STEPS:
        return place + 2
    return place + 1


def answer(session, call):
    """Answers a call that is cut out of the list: its number, then what is handed to it."""
    number = call[0]
    if number == PROGRAM:
        return take_program(session, call[2:])
    if number == TELL:
        return tell(session, call[2:])
    if number == TELLALL:
        return tell_all(session, call[2:])
    if number == BEGIN:
        return begin(session, call[2:])
    if number == STEP:
        return step_once(session)
    if number == STEPS:
        return step_often(session, call[1])
    if number == QUIT:
        return give_up(session)
    raise KeyError(number)


def answers(calls):
    """For each call, in order: how many numbers are answered, and these."""
    session = Session()
    given = []
    place = 0
    while place < len(calls):
        end = end_of_call(calls, place)
        answered = answer(session, calls[place:end])
        given.append(len(answered))
        given.extend(answered)
        place = end
    return given
