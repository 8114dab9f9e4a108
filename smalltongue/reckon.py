"""Reckons with numbers of 64 bits: one that would be outside is refused, never cut."""

from smalltongue.refusals import Outside, PartedByZero

LEAST = -9223372036854775808
MOST = 9223372036854775807


def inside(number):
    if number < LEAST or number > MOST:
        raise Outside()
    return number


def quotient(left, right):
    if right == 0:
        raise PartedByZero()
    # Parted without their signs, for Python's own // rounds down, not towards 0.
    size = abs(left) // abs(right)
    if (left < 0) != (right < 0):
        return -size
    return size


def reckon_one(sign, number):
    if sign == "-":
        return inside(-number)
    return 1 if number == 0 else 0


def reckon_two(sign, left, right):
    if sign == "+":
        return inside(left + right)
    if sign == "-":
        return inside(left - right)
    if sign == "*":
        return inside(left * right)
    if sign == "/":
        return inside(quotient(left, right))
    if sign == "rest":
        # The quotient itself may be outside here: what's left of it is not.
        return left - right * quotient(left, right)
    if sign == "<":
        return 1 if left < right else 0
    return 1 if left == right else 0
