"""Exact numbers: integers of at most sixty digits, and fractions of any length."""

from math import gcd, lcm

from pinnedgaps.errors import InvalidNumber, InvalidOperation, ParseError

MAX_NAME = 8
MAX_RAISED = 1000
MAX_HALVINGS = 30
MAX_TEXT = 400

# The least integer of more than sixty digits.
_TOO_LONG = 10 ** 60
_DIGITS_AT_ONCE = 1000


def is_integer(value):
    """Whether the value is an integer of at most sixty digits."""
    return _is_whole(value) and abs(value) < _TOO_LONG


def is_name(value):
    """Whether the value is a string of one to eight letters a to z."""
    if not isinstance(value, str) or not 1 <= len(value) <= MAX_NAME:
        return False
    return all(["a" <= letter <= "z" for letter in value])


def is_fraction(value):
    """Whether the value is a pair of integers in lowest terms, the bottom at least 1."""
    if not isinstance(value, tuple) or len(value) != 2:
        return False
    top, bottom = value
    if not _is_whole(top) or not _is_whole(bottom):
        return False
    return bottom >= 1 and gcd(top, bottom) == 1


def is_number(value):
    """Whether the value is an integer of at most sixty digits, or a fraction."""
    return is_integer(value) or is_fraction(value)


def is_within(value, low, high):
    """Whether the value is an integer from low to high, both among them."""
    return is_integer(value) and low <= value <= high


def pair_of(number):
    """A number as a fraction; the caller knows that it is a number."""
    if isinstance(number, tuple):
        return number
    return (number, 1)


def is_above_0(value):
    """Whether the value is a number above 0."""
    return is_number(value) and pair_of(value)[0] > 0


def is_row(value, count):
    """Whether the value is a tuple of so many numbers."""
    if not isinstance(value, tuple) or len(value) != count:
        return False
    return all([is_number(number) for number in value])


def check_number(value):
    """Refuses what is no number."""
    if not is_number(value):
        raise InvalidNumber(value)


def check_within(value, low, high):
    """Refuses what is no integer from low to high, both among them."""
    if not is_within(value, low, high):
        raise InvalidNumber(value)


def check_halvings(halvings):
    """Refuses what is no number of halvings."""
    check_within(halvings, 0, MAX_HALVINGS)


def common_divisor(integers):
    """The greatest common divisor of a list of integers, 0 if there is no other one than 0."""
    divisor = 0
    for entry in integers:
        divisor = gcd(divisor, entry)
    return divisor


def whole_row(numbers):
    """The pair of a list of integers and of the least integer by which the numbers were multiplied for it."""
    pairs = [pair_of(number) for number in numbers]
    scale = 1
    for pair in pairs:
        scale = lcm(scale, pair[1])
    return ([top * (scale // bottom) for top, bottom in pairs], scale)


def sum_of(numbers):
    """The sum of a list of numbers, a fraction."""
    found = (0, 1)
    for number in numbers:
        found = added(found, number)
    return found


def product_of(numbers):
    """The product of a list of numbers, a fraction."""
    found = (1, 1)
    for number in numbers:
        found = multiplied(found, number)
    return found


def greatest_of(numbers):
    """The greatest one of a list of one or more numbers."""
    found = numbers[0]
    for number in numbers:
        if compared(number, found) > 0:
            found = number
    return found


def least_that_holds(low, high, holds):
    """The least integer above `low` for which something holds, found by halving.

    It does not hold for `low`, and it holds for `high` and for each integer behind one for which it holds.
    """
    while high - low > 1:
        middle = (low + high) // 2
        if holds(middle):
            high = middle
        else:
            low = middle
    return high


def fraction(top, bottom):
    """The fraction that is the quotient of two integers of any length."""
    if not _is_whole(top):
        raise InvalidNumber(top)
    if not _is_whole(bottom) or bottom == 0:
        raise InvalidNumber(bottom)
    return _reduced(top, bottom)


def added(one, other):
    """The sum of two numbers, a fraction."""
    top, bottom = _checked(one)
    other_top, other_bottom = _checked(other)
    return _reduced(top * other_bottom + other_top * bottom, bottom * other_bottom)


def less(one, other):
    """The first number less the second one, a fraction."""
    top, bottom = _checked(one)
    other_top, other_bottom = _checked(other)
    return _reduced(top * other_bottom - other_top * bottom, bottom * other_bottom)


def multiplied(one, other):
    """The product of two numbers, a fraction."""
    top, bottom = _checked(one)
    other_top, other_bottom = _checked(other)
    return _reduced(top * other_top, bottom * other_bottom)


def divided(one, other):
    """The first number, divided by the second one, a fraction."""
    top, bottom = _checked(one)
    other_top, other_bottom = _checked(other)
    if other_top == 0:
        raise InvalidOperation("no number can be divided by 0")
    return _reduced(top * other_bottom, bottom * other_top)


def compared(one, other):
    """-1, 0 or 1, as the first number is below, equal to or above the second one."""
    top, bottom = _checked(one)
    other_top, other_bottom = _checked(other)
    left = top * other_bottom
    right = other_top * bottom
    if left == right:
        return 0
    return -1 if left < right else 1


def power_of(number, many):
    """The power of a number, a fraction; the exponent can be below 0."""
    top, bottom = _checked(number)
    check_within(many, -MAX_RAISED, MAX_RAISED)
    if many < 0:
        if top == 0:
            raise InvalidOperation("0 has no power with an exponent below 0")
        top, bottom = _reduced(bottom, top)
    # Powers of integers without a common divisor have none either.
    return (_raised(top, abs(many)), _raised(bottom, abs(many)))


def floor_of(number):
    """The greatest integer that is not above the number."""
    top, bottom = _checked(number)
    return top // bottom


def grid_below(number, halvings):
    """The greatest multiple of 1 / 2 ** halvings that is not above the number."""
    top, bottom = _checked(number)
    check_halvings(halvings)
    return _reduced((top << halvings) // bottom, 1 << halvings)


def grid_above(number, halvings):
    """The least multiple of 1 / 2 ** halvings that is not below the number."""
    top, bottom = _checked(number)
    check_halvings(halvings)
    # Only // is there, which rounds down: the number is turned around twice.
    return _reduced(-((-top << halvings) // bottom), 1 << halvings)


def number_text(number):
    """The text of a number, like -3/2, or 5 for a number with the bottom 1."""
    top, bottom = _checked(number)
    if bottom == 1:
        return _whole_text(top)
    return _whole_text(top) + "/" + _whole_text(bottom)


def number_of_text(text):
    """The number with a text, a fraction."""
    if not isinstance(text, str) or len(text) > MAX_TEXT:
        raise ParseError(0)
    pair = _pair_of_text(text)
    if not is_fraction(pair):
        raise ParseError(0)
    # One number can be written in several ways, but has one text only.
    if number_text(pair) != text:
        raise ParseError(0)
    return pair


def _is_whole(value):
    """Whether the value is an integer of any length."""
    return isinstance(value, int) and not isinstance(value, bool)


def _checked(number):
    """A number as a fraction, behind its check."""
    check_number(number)
    return pair_of(number)


def _reduced(top, bottom):
    """The fraction that is the quotient of two integers, the second one not 0."""
    common = gcd(top, bottom)
    if bottom < 0:
        common = -common
    return (top // common, bottom // common)


def _raised(base, many):
    """The power of an integer, by squaring: the exponents here can be large."""
    if many == 0:
        return 1
    half = _raised(base, many // 2)
    if (many & 1) == 0:
        return half * half
    return half * half * base


def _whole_text(whole):
    """The digits of an integer; Python refuses to write very long ones at once, so they are written in parts."""
    sign = "-" if whole < 0 else ""
    part = _raised(10, _DIGITS_AT_ONCE)
    left = abs(whole)
    words = []
    while left >= part:
        words.append(str(left % part).zfill(_DIGITS_AT_ONCE))
        left = left // part
    return sign + str(left) + "".join(reversed(words))


def _pair_of_text(text):
    """The pair of integers that a text tells, None if it tells none."""
    top, slash, bottom = text.partition("/")
    if slash == "":
        bottom = "1"
    if not _is_digits(top.removeprefix("-")) or not _is_digits(bottom):
        return None
    return (int(top), int(bottom))


def _is_digits(word):
    return word != "" and all(["0" <= sign <= "9" for sign in word])
