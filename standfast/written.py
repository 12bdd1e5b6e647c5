"""Ratios as texts, and the numbers in the text of a frame."""

from standfast.errors import InvalidRatio
from standfast.ratios import negative, ratio, sign, size


def write_ratio(a):
    """Return the written form of a ratio."""
    n, d = size(a)
    start = "-" if sign(a) < 0 else ""
    end = "" if d == 1 else "/" + digits_of(d)
    return start + digits_of(n) + end


def read_ratio(text):
    """Return the ratio that a text is the written form of."""
    found = read_size(text.removeprefix("-"))
    if found is not None and text.startswith("-"):
        found = negative(found)
    if found is None or write_ratio(found) != text:
        raise InvalidRatio("this is not the written form of a ratio")
    return found


def read_number(word):
    """Return the ratio of a number in the text of a frame, or None."""
    found = read_size(word.removeprefix("-"))
    if found is not None and word.startswith("-"):
        return negative(found)
    return found


def read_whole(word):
    """Return the integer that plain digits tell, or None."""
    if not is_digits(word) or (word != "0" and word.startswith("0")):
        return None
    return integer_of(word)


def write_number(a):
    """Return a ratio as it is written in the text of a frame."""
    n, d = size(a)
    if 10 ** 9 % d != 0:
        return write_ratio(a)
    start = "-" if sign(a) < 0 else ""
    decimals = str(n % d * (10 ** 9 // d)).zfill(9).rstrip("0")
    end = "." + decimals if decimals else ""
    return start + digits_of(n // d) + end


def read_size(word):
    """Return the ratio of a number without a sign, or None."""
    whole, point, decimals = word.partition(".")
    if point:
        return decimal_number(read_whole(whole), decimals)
    above, stroke, below = word.partition("/")
    n = read_whole(above)
    d = read_whole(below) if stroke else 1
    if n is None or d is None or d == 0:
        return None
    return ratio(n, d)


def decimal_number(whole, decimals):
    """Return the ratio of a whole part (or None) and decimal digits, or None."""
    if whole is None or not is_digits(decimals) or len(decimals) > 9:
        return None
    return ratio(whole * 10 ** 9 + int(decimals.ljust(9, "0")), 10 ** 9)


def is_digits(text):
    """Return True if a text consists of decimal digits, of at least one."""
    return text.isascii() and text.isdecimal()


def digits_of(n):
    """Return the digits of an integer of at least 0."""
    # Python refuses to write very long integers at once, so this goes piece by piece.
    pieces = []
    while n >= 10 ** 64:
        n, rest = divmod(n, 10 ** 64)
        pieces.append(str(rest).zfill(64))
    pieces.append(str(n))
    return "".join(reversed(pieces))


def integer_of(digits):
    """Return the integer that digits tell."""
    # Python refuses to read very long integers at once, so this goes piece by piece.
    width = (len(digits) + 63) // 64 * 64
    padded = digits.zfill(width)
    value = 0
    for at in range(0, width, 64):
        value = value * 10 ** 64 + int(padded[at:at + 64])
    return value
