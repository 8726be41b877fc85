"""Whole numbers: how large they may be, how they are shown, and how they are read again."""

from saymessages.refusals import NotAllowed
from saymessages.rows import bytes_of, is_of

LARGEST = 9223372036854775807
DIGITS = "0123456789"
HEX_DIGITS = "0123456789abcdef"
LONGEST_DECIMAL = 10


def within_64_bits(value):
    return -LARGEST - 1 <= value <= LARGEST


def in_decimal(value):
    return bytes_of(str(value))


def in_groups(value, separator):
    digits = in_decimal(abs(value))
    shown = [ord("-")] if value < 0 else []
    for place, digit in enumerate(digits):
        if place > 0 and (len(digits) - place) % 3 == 0:
            shown.extend(separator)
        shown.append(digit)
    return shown


# All that is read is below 2^32: what has more digits is refused before it is reckoned.
def from_decimal(digits):
    if not 1 <= len(digits) <= LONGEST_DECIMAL or not is_of(digits, DIGITS):
        raise NotAllowed()
    if digits[0] == ord("0") and len(digits) > 1:
        raise NotAllowed()
    value = 0
    for digit in digits:
        value = value * 10 + digit - ord("0")
    return value


# Two digits a byte.
def in_hexadecimal(row):
    signs = bytes_of(HEX_DIGITS)
    digits = []
    for byte in row:
        digits.append(signs[byte // 16])
        digits.append(signs[byte % 16])
    return tuple(digits)


def from_hexadecimal(digits):
    if len(digits) % 2 != 0 or not is_of(digits, HEX_DIGITS):
        raise NotAllowed()
    signs = bytes_of(HEX_DIGITS)
    values = [signs.index(digit) for digit in digits]
    return tuple([values[place] * 16 + values[place + 1] for place in range(0, len(values), 2)])
