"""The calls that change what is held. Each answers a list: its numbers, or a refusal alone."""

from orderedrules.bag import Bag, copy_of, refusal_of_change, tell_fact
from orderedrules.faults import faults_of
from orderedrules.patterns import facts_in, lone_fact_in
from orderedrules.programs import read_program
from orderedrules.refusals import (
    BAG_HAS_FAILED, FAULTY_PROGRAM, MOST_OUT_OF_RANGE, NO_RUN, NOT_A_FACT,
    RUN_FAILS, RUN_ON_ITS_WAY, TEXT_TOO_LONG,
)
from orderedrules.runs import HAS_FAILED, MOST_STEPS, NO_STEP_CAN_BE, do_step, first_task, go_on
from orderedrules.tokens import LONGEST_TEXT


class Session:
    """A program or None, its bag, the pile, and the bag before the run on its way or None."""

    def __init__(self):
        self.program = None
        self.bag = Bag()
        self.pile = []
        self.before = None


def take_program(session, text):
    if len(text) > LONGEST_TEXT:
        return [TEXT_TOO_LONG]
    if faults_of(text):
        return [FAULTY_PROGRAM]
    session.program = read_program(text)
    session.bag = Bag()
    session.pile = []
    session.before = None
    return [0, len(session.program.rules)]


def refusal_of_telling(session, text, facts):
    """Why the facts that were found in the text can't be told; 0 if they can."""
    if len(text) > LONGEST_TEXT:
        return TEXT_TOO_LONG
    if not facts:
        return NOT_A_FACT
    if session.before is not None:
        return RUN_ON_ITS_WAY
    return 0


def run_fact(bag, rules, fact):
    """Runs the fact up to its rest; answers its number, the deeds, the steps, or a refusal."""
    refusal = refusal_of_change(bag, 0, 1)
    if refusal < 0:
        return [refusal]
    number = tell_fact(bag, fact)
    ended = go_on(bag, rules, [first_task(number)], MOST_STEPS)
    if ended[2] == HAS_FAILED:
        return [RUN_FAILS]
    if ended[2] < 0:
        return [ended[2]]
    return [number, ended[1], ended[0]]


def tell(session, text):
    facts = lone_fact_in(text)
    refusal = refusal_of_telling(session, text, facts)
    if refusal < 0:
        return [refusal]
    bag = copy_of(session.bag)
    told = run_fact(bag, session.program.rules, facts[0])
    if told[0] < 0:
        return told
    session.bag = bag
    return [0] + told


def tell_all(session, text):
    facts = facts_in(text)
    refusal = refusal_of_telling(session, text, facts)
    if refusal < 0:
        return [refusal]
    bag = copy_of(session.bag)
    deeds = 0
    steps = 0
    for fact in facts:
        told = run_fact(bag, session.program.rules, fact)
        if told[0] < 0:
            return told
        deeds += told[1]
        steps += told[2]
    session.bag = bag
    return [0, len(facts), deeds, steps]


def begin(session, text):
    facts = lone_fact_in(text)
    refusal = refusal_of_telling(session, text, facts)
    if refusal < 0:
        return [refusal]
    refusal = refusal_of_change(session.bag, 0, 1)
    if refusal < 0:
        return [refusal]
    session.before = copy_of(session.bag)
    number = tell_fact(session.bag, facts[0])
    session.pile = [first_task(number)]
    return [0, number]


def refusal_of_going_on(session):
    """Why the run can't be gone on with; 0 if it can."""
    if session.before is None:
        return NO_RUN
    if session.bag.failed:
        return BAG_HAS_FAILED
    return 0


def end_run_at_rest(session):
    if not session.pile and not session.bag.failed:
        session.before = None


def step_once(session):
    refusal = refusal_of_going_on(session)
    if refusal < 0:
        return [refusal]
    happened = do_step(session.bag, session.program.rules, session.pile)
    if happened[0] < 0:
        return happened
    end_run_at_rest(session)
    return [0] + happened


def step_often(session, most):
    refusal = refusal_of_going_on(session)
    if refusal < 0:
        return [refusal]
    if most < 0 or most > MOST_STEPS:
        return [MOST_OUT_OF_RANGE]
    ended = go_on(session.bag, session.program.rules, session.pile, most)
    end_run_at_rest(session)
    why = NO_STEP_CAN_BE if ended[2] < 0 else ended[2]
    return [0, ended[0], ended[1], why]


def give_up(session):
    if session.before is None:
        return [NO_RUN]
    session.bag = session.before
    session.pile = []
    session.before = None
    return [0]
