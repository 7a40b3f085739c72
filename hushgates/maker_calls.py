"""The calls of the maker: next, match."""

from hushgates.gates import TABLE_BYTES
from hushgates.replies import refusal, reply

LONGEST_STREAM = 2048


def done_number(maker):
    return 1 if maker.all_done() else 0


def answer_next(maker, numbers, rows):
    tables = maker.tell_tables(numbers[0])
    told = []
    for table in tables:
        told.extend(table)
    return reply(done_number(maker), told, [maker.gates_done(), len(tables)])


def answer_match(maker, numbers, rows):
    stream = rows[0]
    if len(stream) > LONGEST_STREAM:
        return refusal(-2)
    if len(stream) % TABLE_BYTES != 0:
        return refusal(-1)
    comparison = maker.match_tables(stream)
    number = 2 if comparison.differs else done_number(maker)
    return reply(number, [], [maker.gates_done(), comparison.same])


MAKER_CALLS = {9: answer_next, 10: answer_match}


def maker_answer(maker, number, numbers, rows):
    """The answer of the call of this number."""
    answer = MAKER_CALLS[number]
    return answer(maker, numbers, rows)
