"""Whole numbers and the digits that they are written with, each digit a byte."""


def byte_of(digit):
    """The byte of a digit from 0 to 63."""
    if digit < 26:
        return digit + 65
    if digit < 52:
        return digit + 71
    if digit < 62:
        return digit - 4
    if digit == 62:
        return 43
    return 47


def digit_of(byte):
    """The digit whose byte this is, or -1 if it is none's."""
    if byte >= 65 and byte <= 90:
        return byte - 65
    if byte >= 97 and byte <= 122:
        return byte - 71
    if byte >= 48 and byte <= 57:
        return byte + 4
    if byte == 43:
        return 62
    if byte == 47:
        return 63
    return -1


def written_number(number):
    """The bytes of a number's digits; the number may be below 0."""
    rest = 2 * number if number >= 0 else 1 - 2 * number
    written = []
    while rest >= 32:
        written.append(byte_of(rest % 32 + 32))
        rest = rest // 32
    written.append(byte_of(rest))
    return written


def signed(value):
    """The number x of which value is twice x, or, if that is odd, twice -x and 1."""
    if value % 2 == 0:
        return value // 2
    return -(value // 2)


def read_numbers(written):
    """The numbers whose digits the bytes are, one behind another, or None if they are no numbers' digits."""
    numbers = []
    value = 0
    weight = 1
    for byte in written:
        digit = digit_of(byte)
        if digit < 0:
            return None
        value = value + digit % 32 * weight
        if digit >= 32:
            weight = weight * 32
            continue
        # A last group of 0 could have been left out, and 1 would be 0 below 0, which is written as 0.
        if (digit == 0 and weight > 1) or value == 1:
            return None
        numbers.append(signed(value))
        value = 0
        weight = 1
    if weight > 1:
        return None
    return numbers
