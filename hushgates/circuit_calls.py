"""load, and the calls of the circuit: shape, plain, and those that make a maker or a taker of it."""

from hushgates.circuit import GoesWrong, read_circuit
from hushgates.maker import Maker
from hushgates.replies import refusal, reply
from hushgates.taker import Taker

LONGEST_TEXT = 256


def answer_load(state, rows):
    text = rows[0]
    if len(text) > LONGEST_TEXT:
        return refusal(-2)
    try:
        circuit = read_circuit(text)
    except GoesWrong as e:
        return reply(-6, [], [e.place])
    state.circuit = circuit
    return reply(0, [], [])


def answer_shape(state, rows):
    return reply(0, [], state.circuit.shape())


def answer_plain(state, rows):
    circuit = state.circuit
    if len(rows[0]) != circuit.maker_bits or len(rows[1]) != circuit.taker_bits:
        return refusal(-1)
    bits = rows[0] + rows[1]
    if any([bit > 1 for bit in bits]):
        return refusal(-1)
    return reply(0, [], circuit.output_bits(bits))


def answer_begin(state, rows):
    state.maker = Maker(state.circuit, rows[0], rows[1])
    return reply(0, [], [])


def answer_new_taker(state, rows):
    state.taker = Taker(state.circuit, rows[0])
    return reply(0, [], [])


CIRCUIT_CALLS = {5: answer_load, 6: answer_shape, 7: answer_plain, 8: answer_begin, 16: answer_new_taker}


def circuit_answer(state, number, rows):
    """The answer of the call of this number; all but load find a circuit."""
    answer = CIRCUIT_CALLS[number]
    return answer(state, rows)
