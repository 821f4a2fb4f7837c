"""Integers in texts."""

BLOCK = 10 ** 64
BLOCK_DIGITS = 64
DIGITS = "0123456789"


def number_text(number):
    """Return the text of an integer, block by block, as Python itself refuses integers with too many digits."""
    left = abs(number)
    blocks = []
    while left >= BLOCK:
        left, block = divmod(left, BLOCK)
        blocks.append(str(block).zfill(BLOCK_DIGITS))
    digits = str(left) + "".join(blocks[::-1])
    return "-" + digits if number < 0 else digits


def numbers_text(numbers):
    """Return the texts of integers with spaces between."""
    return " ".join([number_text(number) for number in numbers])


def number_in(text):
    """Return the integer with these digits, zeros in front included; None if it is none."""
    digits = text.removeprefix("-")
    if not digits or not all([sign in DIGITS for sign in digits]):
        return None
    return int(text)
