"""The calls: one list of whole numbers in, one list of whole numbers back."""

from bitfloats.exact import taken_apart
from bitfloats.formats import LAST_KIND, bits_of_row, byte_count, row_of_bits
from bitfloats.functions import LAST_FUNCTION, POWER, function
from bitfloats.operations import LAST_HOW, LAST_OPERATION, compared, converted, from_whole, fused, held_whole
from bitfloats.operations import operation, scaled
from bitfloats.rounding import LAST_MODE
from bitfloats.sums import LAST_ORDER, Accumulator, exact_product, sum_of_numbers, sum_of_products
from bitfloats.texts import LONGEST_TEXT, NoNumber, read, told

DONE = 0
REFUSED = -1
NO_NUMBER = -2
GREATEST_SCALE = 5000
MOST_NUMBERS = 64
MOST_BITS = 48
LAST_SIGN = 1

# For each call, by its number: how many whole numbers it has, and how many rows.
SHAPES = (
    (3, 2), (2, 3), (3, 1), (3, 1), (3, 2), (2, 2), (1, 1), (2, 1),
    (0, 0), (1, 2), (2, 0), (3, 1), (3, 2), (4, 1), (3, 0),
)


def answers(calls):
    accumulator = Accumulator()
    given = []
    at = 0
    while at < len(calls):
        shape = SHAPES[calls[at]]
        wholes = calls[at + 1:at + 1 + shape[0]]
        rows = taken_rows(calls, at + 1 + shape[0], shape[1])
        answer = answered(accumulator, calls[at], wholes, rows)
        given.append(len(answer))
        given.extend(answer)
        at = at + 1 + len(wholes) + sum([1 + len(row) for row in rows])
    return given


def taken_rows(calls, start, count):
    """So many rows from start on, each behind how many numbers it has."""
    rows = []
    at = start
    for turn in range(count):
        end = at + 1 + calls[at]
        rows.append(calls[at + 1:end])
        at = end
    return rows


def answered(accumulator, number, wholes, rows):
    if number == 0:
        return answer_op(wholes[0], wholes[1], wholes[2], rows)
    if number == 1:
        return answer_fma(wholes[0], wholes[1], rows)
    if number == 2:
        return answer_scale(wholes[0], wholes[1], wholes[2], rows)
    if number == 3:
        return answer_conv(wholes[0], wholes[1], wholes[2], rows)
    if number == 4:
        return answer_fn(wholes[0], wholes[1], wholes[2], rows)
    if number == 5:
        return answer_cmp(wholes[0], wholes[1], rows)
    if number == 6:
        return answer_text(wholes[0], rows)
    if number == 7:
        return answer_read(wholes[0], wholes[1], rows[0])
    if number == 8:
        return answer_clear(accumulator)
    if number == 9:
        return answer_add(accumulator, wholes[0], rows)
    if number == 10:
        return answer_get(accumulator, wholes[0], wholes[1])
    if number == 11:
        return answer_sum(wholes[0], wholes[1], wholes[2], rows)
    if number == 12:
        return answer_dot(wholes[0], wholes[1], wholes[2], rows)
    if number == 13:
        return answer_whole(wholes[0], wholes[1], wholes[2], wholes[3], rows)
    return answer_float(wholes[0], wholes[1], wholes[2])


def all_fit(kind, rows):
    """Whether there is such a kind, and each row has as many bytes as its numbers."""
    return kind <= LAST_KIND and all([len(row) == byte_count(kind) for row in rows])


def with_count(row):
    return [DONE, len(row)] + row


def number_answer(kind, bits):
    return with_count(row_of_bits(kind, bits))


def answer_op(kind, number, mode, rows):
    if not all_fit(kind, rows) or number > LAST_OPERATION or mode > LAST_MODE:
        return [REFUSED]
    return number_answer(kind, operation(kind, number, mode, bits_of_row(rows[0]), bits_of_row(rows[1])))


def answer_fma(kind, mode, rows):
    if not all_fit(kind, rows) or mode > LAST_MODE:
        return [REFUSED]
    bits = [bits_of_row(row) for row in rows]
    return number_answer(kind, fused(kind, mode, bits[0], bits[1], bits[2]))


def answer_scale(kind, mode, k, rows):
    if not all_fit(kind, rows) or mode > LAST_MODE or abs(k) > GREATEST_SCALE:
        return [REFUSED]
    return number_answer(kind, scaled(kind, mode, bits_of_row(rows[0]), k))


def answer_conv(from_kind, to_kind, mode, rows):
    if not all_fit(from_kind, rows) or to_kind > LAST_KIND or mode > LAST_MODE:
        return [REFUSED]
    return number_answer(to_kind, converted(from_kind, to_kind, mode, bits_of_row(rows[0])))


def answer_fn(kind, number, mode, rows):
    looked_at = rows if number == POWER else rows[:1]
    if not all_fit(kind, looked_at) or number > LAST_FUNCTION or mode > LAST_MODE:
        return [REFUSED]
    b = bits_of_row(rows[1]) if number == POWER else 0
    return number_answer(kind, function(kind, number, mode, bits_of_row(rows[0]), b))


def answer_cmp(kind, how, rows):
    if not all_fit(kind, rows) or how > LAST_HOW:
        return [REFUSED]
    return [DONE, compared(kind, how, bits_of_row(rows[0]), bits_of_row(rows[1]))]


def answer_text(kind, rows):
    if not all_fit(kind, rows):
        return [REFUSED]
    return with_count(told(kind, bits_of_row(rows[0])))


def answer_read(kind, mode, text):
    if kind > LAST_KIND or mode > LAST_MODE or len(text) > LONGEST_TEXT:
        return [REFUSED]
    try:
        bits = read(kind, mode, text)
    except NoNumber:
        return [NO_NUMBER]
    return number_answer(kind, bits)


def answer_clear(accumulator):
    accumulator.make_empty()
    return [DONE]


def answer_add(accumulator, kind, rows):
    looked_at = rows[:1] if rows[1] == [] else rows
    if not all_fit(kind, looked_at):
        return [REFUSED]
    a = bits_of_row(rows[0])
    if rows[1] == []:
        accumulator.take(taken_apart(kind, a))
    else:
        accumulator.take(exact_product(kind, a, bits_of_row(rows[1])))
    return [DONE]


def answer_get(accumulator, kind, mode):
    if kind > LAST_KIND or mode > LAST_MODE:
        return [REFUSED]
    return number_answer(kind, accumulator.rounded_once(kind, mode))


def can_be_summed(kind, order, mode, row):
    """Whether there are such a kind, order and mode, and the row is of whole numbers, not too many of them."""
    if kind > LAST_KIND or order > LAST_ORDER or mode > LAST_MODE:
        return False
    return len(row) % byte_count(kind) == 0 and len(row) <= MOST_NUMBERS * byte_count(kind)


def numbers_in_row(kind, row):
    step = byte_count(kind)
    return [bits_of_row(row[start:start + step]) for start in range(0, len(row), step)]


def answer_sum(kind, order, mode, rows):
    if not can_be_summed(kind, order, mode, rows[0]):
        return [REFUSED]
    return number_answer(kind, sum_of_numbers(kind, order, mode, numbers_in_row(kind, rows[0])))


def answer_dot(kind, order, mode, rows):
    if not can_be_summed(kind, order, mode, rows[0]) or len(rows[0]) != len(rows[1]):
        return [REFUSED]
    numbers = numbers_in_row(kind, rows[0])
    others = numbers_in_row(kind, rows[1])
    return number_answer(kind, sum_of_products(kind, order, mode, numbers, others))


def answer_whole(kind, mode, width, sign, rows):
    if not all_fit(kind, rows) or mode > LAST_MODE or width < 1 or width > MOST_BITS or sign > LAST_SIGN:
        return [REFUSED]
    return [DONE, held_whole(kind, mode, width, sign == 1, bits_of_row(rows[0]))]


def answer_float(kind, mode, z):
    if kind > LAST_KIND or mode > LAST_MODE:
        return [REFUSED]
    return number_answer(kind, from_whole(kind, mode, z))
