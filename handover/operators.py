"""What the operators between two operands do.

The left side comes as a number, the right side as an expression with the
frame to work it out in, for it is not always needed.
"""

from handover.refusals import DividedByZero

HALF = 2147483648
WHOLE = 4294967296


def wrap(number):
    return (number + HALF) % WHOLE - HALF


def either(left, right, frame):
    return 1 if left != 0 or right.work_out(frame) != 0 else 0


def both(left, right, frame):
    return 1 if left != 0 and right.work_out(frame) != 0 else 0


def equal(left, right, frame):
    return 1 if left == right.work_out(frame) else 0


def unequal(left, right, frame):
    return 1 if left != right.work_out(frame) else 0


def less(left, right, frame):
    return 1 if left < right.work_out(frame) else 0


def at_most(left, right, frame):
    return 1 if left <= right.work_out(frame) else 0


def greater(left, right, frame):
    return 1 if left > right.work_out(frame) else 0


def at_least(left, right, frame):
    return 1 if left >= right.work_out(frame) else 0


def plus(left, right, frame):
    return wrap(left + right.work_out(frame))


def minus(left, right, frame):
    return wrap(left - right.work_out(frame))


def times(left, right, frame):
    return wrap(left * right.work_out(frame))


def divided(left, right, frame):
    return wrap(cut_quotient(left, right.work_out(frame)))


def remainder(left, right, frame):
    divisor = right.work_out(frame)
    return left - divisor * cut_quotient(left, divisor)


def cut_quotient(number, divisor):
    if divisor == 0:
        raise DividedByZero()
    quotient = abs(number) // abs(divisor)
    return quotient if (number < 0) == (divisor < 0) else -quotient


OPERATORS = {
    "||": either,
    "&&": both,
    "==": equal,
    "!=": unequal,
    "<": less,
    "<=": at_most,
    ">": greater,
    ">=": at_least,
    "+": plus,
    "-": minus,
    "*": times,
    "/": divided,
    "remainder of": remainder,
}

TIGHTNESS = {
    "||": 1,
    "&&": 2,
    "==": 3,
    "!=": 3,
    "<": 4,
    "<=": 4,
    ">": 4,
    ">=": 4,
    "+": 5,
    "-": 5,
    "*": 6,
    "/": 6,
    "remainder of": 6,
}
