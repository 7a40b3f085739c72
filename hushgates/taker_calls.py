"""The calls of the taker: give, feed, label, bit."""

from hushgates.gates import colour
from hushgates.replies import refusal, reply
from hushgates.walk import LONGEST_PIECE
from hushgates.wide import number_of, row_of


def answer_give(taker, numbers, rows):
    i = numbers[0]
    if not taker.has_input(i):
        return refusal(-3)
    if taker.is_fed:
        return refusal(-4)
    taker.keep_label(i, number_of(rows[0]))
    return reply(0, [], [])


def answer_feed(taker, numbers, rows):
    stream = rows[0]
    if len(stream) > LONGEST_PIECE:
        return refusal(-2)
    if taker.lacks_label():
        return refusal(-4)
    taken = taker.take_stream(stream)
    return reply(1 if taker.all_done() else 0, [], [taken])


def answer_label(taker, numbers, rows):
    j = numbers[0]
    if not taker.has_output(j):
        return refusal(-3)
    if not taker.is_finished():
        return refusal(-4)
    return reply(0, row_of(taker.output_label(j)), [])


def answer_bit(taker, numbers, rows):
    j = numbers[0]
    hint = numbers[1]
    if not taker.has_output(j) or hint > 1:
        return refusal(-3)
    if not taker.is_finished():
        return refusal(-4)
    return reply(colour(taker.output_label(j)) ^ hint, [], [])


TAKER_CALLS = {17: answer_give, 18: answer_feed, 19: answer_label, 20: answer_bit}


def taker_answer(taker, number, numbers, rows):
    """The answer of the call of this number."""
    answer = TAKER_CALLS[number]
    return answer(taker, numbers, rows)
