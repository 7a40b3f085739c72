"""The calls of the maker: next, match, tell, told, done, hint, settle."""

from hushgates.gates import TABLE_BYTES, colour
from hushgates.replies import refusal, reply
from hushgates.walk import LONGEST_PIECE
from hushgates.wide import number_of, row_of


def done_number(maker):
    return 1 if maker.all_done() else 0


def answer_next(maker, numbers, rows):
    tables = maker.tell_tables(numbers[0])
    told = []
    for table in tables:
        told.extend(table)
    return reply(done_number(maker), told, [maker.gates_done(), len(tables)])


def answer_match(maker, numbers, rows):
    stream = rows[0]
    if len(stream) > LONGEST_PIECE:
        return refusal(-2)
    if len(stream) % TABLE_BYTES != 0:
        return refusal(-1)
    comparison = maker.match_tables(stream)
    number = 2 if comparison.differs else done_number(maker)
    return reply(number, [], [maker.gates_done(), comparison.same])


def answer_tell(maker, numbers, rows):
    i = numbers[0]
    bit = numbers[1]
    if not maker.has_input(i) or bit > 1:
        return refusal(-3)
    if maker.other_is_told(i, bit):
        return refusal(-4)
    return reply(0, row_of(maker.tell_label(i, bit)), [])


def answer_told(maker, numbers, rows):
    i = numbers[0]
    if not maker.has_input(i):
        return refusal(-3)
    return reply(maker.inputs_told[i], [], [])


def answer_done(maker, numbers, rows):
    return reply(maker.gates_done(), [], [])


def answer_hint(maker, numbers, rows):
    j = numbers[0]
    if not maker.has_output(j):
        return refusal(-3)
    if not maker.all_done():
        return refusal(-4)
    return reply(colour(maker.output_label(j)), [], [])


def answer_settle(maker, numbers, rows):
    j = numbers[0]
    if not maker.has_output(j):
        return refusal(-3)
    if not maker.all_done():
        return refusal(-4)
    zero = maker.output_label(j)
    label = number_of(rows[0])
    if label == zero:
        return reply(0, [], [])
    if label == zero ^ maker.delta:
        return reply(1, [], [])
    return refusal(-5)


MAKER_CALLS = {
    9: answer_next,
    10: answer_match,
    11: answer_tell,
    12: answer_told,
    13: answer_done,
    14: answer_hint,
    15: answer_settle,
}


def maker_answer(maker, number, numbers, rows):
    """The answer of the call of this number."""
    answer = MAKER_CALLS[number]
    return answer(maker, numbers, rows)
