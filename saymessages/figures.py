"""Whole numbers: how large they may be and how they are shown."""

LARGEST = 9223372036854775807


def within_64_bits(value):
    return -LARGEST - 1 <= value <= LARGEST


def in_decimal(value):
    return [ord(sign) for sign in str(value)]


def in_groups(value, separator):
    digits = in_decimal(abs(value))
    shown = [ord("-")] if value < 0 else []
    for place, digit in enumerate(digits):
        if place > 0 and (len(digits) - place) % 3 == 0:
            shown.extend(separator)
        shown.append(digit)
    return shown
