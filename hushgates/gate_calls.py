"""The calls that need neither circuit nor party: twice, mix, table, zero, one."""

from hushgates.cipher import mix, schedule_of
from hushgates.gates import MOST_FUNCTION, TABLE_BYTES, garbled_gate, taken_label
from hushgates.replies import refusal, reply
from hushgates.wide import number_of, row_of, twice


def answer_twice(numbers, rows):
    return reply(0, row_of(twice(number_of(rows[0]))), [])


def answer_mix(numbers, rows):
    schedule = schedule_of(rows[0])
    return reply(0, row_of(mix(schedule, number_of(rows[1]), number_of(rows[2]))), [])


def asked_gate(numbers, rows):
    """The gate that table or zero is asked of, garbled."""
    schedule = schedule_of(rows[0])
    a = number_of(rows[1])
    b = number_of(rows[2])
    d = number_of(rows[3])
    return garbled_gate(schedule, numbers[0], numbers[1], a, b, d)


def answer_table(numbers, rows):
    if numbers[0] > MOST_FUNCTION:
        return refusal(-1)
    return reply(0, asked_gate(numbers, rows).table, [])


def answer_zero(numbers, rows):
    if numbers[0] > MOST_FUNCTION:
        return refusal(-1)
    return reply(0, row_of(asked_gate(numbers, rows).zero), [])


def answer_one(numbers, rows):
    table = rows[3]
    if len(table) != TABLE_BYTES or numbers[0] > MOST_FUNCTION:
        return refusal(-1)
    schedule = schedule_of(rows[0])
    a = number_of(rows[1])
    b = number_of(rows[2])
    return reply(0, row_of(taken_label(schedule, numbers[0], numbers[1], a, b, table)), [])


GATE_CALLS = {0: answer_twice, 1: answer_mix, 2: answer_table, 3: answer_zero, 4: answer_one}


def gate_answer(number, numbers, rows):
    """The answer of the call of this number, whose sixteens are sixteen."""
    answer = GATE_CALLS[number]
    return answer(numbers, rows)
