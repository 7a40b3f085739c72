"""Both parties behind one list of calls."""

from hushgates.circuit_calls import circuit_answer
from hushgates.gate_calls import gate_answer
from hushgates.maker_calls import maker_answer
from hushgates.replies import refusal
from hushgates.taker_calls import taker_answer

# Of each call: how many numbers it has, how many rows, how many of the rows, from the first on, are sixteen.
FORMS = {
    0: (0, 1, 1),
    1: (0, 3, 3),
    2: (2, 4, 4),
    3: (2, 4, 4),
    4: (2, 4, 3),
    5: (0, 1, 0),
    6: (0, 0, 0),
    7: (0, 2, 0),
    8: (0, 2, 2),
    9: (1, 0, 0),
    10: (0, 1, 0),
    11: (2, 0, 0),
    12: (1, 0, 0),
    13: (0, 0, 0),
    14: (1, 0, 0),
    15: (1, 1, 1),
    16: (0, 1, 1),
    17: (1, 1, 1),
    18: (0, 1, 0),
    19: (1, 0, 0),
    20: (2, 0, 0),
}

LAST_GATE_CALL = 4
CIRCUIT_CALL_NUMBERS = (6, 7, 8, 16)
MAKER_CALL_NUMBERS = (9, 10, 11, 12, 13, 14, 15)
TAKER_CALL_NUMBERS = (17, 18, 19, 20)
SIXTEEN = 16


class State:
    """What one list of calls has made so far."""

    def __init__(self):
        self.circuit = None
        self.maker = None
        self.taker = None


class CallReader:
    """A list of calls, and how far it is read."""

    def __init__(self, calls):
        self.calls = calls
        self.at = 0

    def at_end(self):
        return self.at == len(self.calls)

    def take_number(self):
        number = self.calls[self.at]
        self.at = self.at + 1
        return number

    def take_row(self):
        size = self.take_number()
        row = self.calls[self.at:self.at + size]
        self.at = self.at + size
        return row


def answers(calls):
    """The answers of the calls of one list, each with how many numbers it has before it."""
    reader = CallReader(calls)
    state = State()
    told = []
    while not reader.at_end():
        number = reader.take_number()
        form = FORMS[number]
        numbers = [reader.take_number() for k in range(form[0])]
        rows = [reader.take_row() for k in range(form[1])]
        answer = answer_of(state, number, numbers, rows)
        told.append(len(answer))
        told.extend(answer)
    return told


def answer_of(state, number, numbers, rows):
    """One call's answer; what every call is refused for is looked at here, in the order told."""
    if is_missing(state, number):
        return refusal(-8)
    sixteens = rows[:FORMS[number][2]]
    if any([len(row) != SIXTEEN for row in sixteens]):
        return refusal(-1)
    if number <= LAST_GATE_CALL:
        return gate_answer(number, numbers, rows)
    if number in MAKER_CALL_NUMBERS:
        return maker_answer(state.maker, number, numbers, rows)
    if number in TAKER_CALL_NUMBERS:
        return taker_answer(state.taker, number, numbers, rows)
    return circuit_answer(state, number, rows)


def is_missing(state, number):
    """Whether the call is one of a circuit or a party that there isn't."""
    if number in CIRCUIT_CALL_NUMBERS:
        return state.circuit is None
    if number in MAKER_CALL_NUMBERS:
        return state.maker is None
    if number in TAKER_CALL_NUMBERS:
        return state.taker is None
    return False
