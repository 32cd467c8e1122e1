"""The lines of texts, and the numbers on them."""

from runledger.checks import MOST_JUMPS, can_have_blocks, is_count, is_jump
from runledger.errors import BadText

# The greatest number that a text may hold is 10 ** 30. Longer numbers are never valid,
# and Python refuses to read very long ones.
MOST_DIGITS = 31


def is_number(word):
    """Return whether the word is a number as texts write it."""
    if not word.isascii() or not word.isdigit() or len(word) > MOST_DIGITS:
        return False
    return word == "0" or not word.startswith("0")


def numbers_of(line):
    """Return the list of the numbers of the line, an empty one if a word is no number."""
    words = line.split(" ")
    if not all([is_number(word) for word in words]):
        return []
    return [int(word) for word in words]


def number_behind(line, word):
    """Return the number that follows the word and one space on the line, or -1."""
    if not line.startswith(word + " "):
        return -1
    numbers = numbers_of(line[len(word) + 1:])
    return numbers[0] if len(numbers) == 1 else -1


def digits_of(number):
    """Return the digits of the number, which is not below 0."""
    # Python refuses to write very long numbers at once, and sums may be as long as can be.
    pieces = []
    while number >= 10 ** 60:
        number, piece = divmod(number, 10 ** 60)
        pieces.append(str(piece).zfill(60))
    return "".join([str(number), *pieces[::-1]])


def lines_of(text):
    """Return the list of the lines of the text, which may be any value."""
    if not isinstance(text, str):
        raise BadText(1)
    return text.split("\n")


def rows_of(text, width):
    """Return the number of blocks of a text, and the numbers of its further lines.

    These are lists of so many numbers: the two blocks of a jump, and counts.
    """
    lines = lines_of(text)
    blocks = number_behind(lines[0], "blocks")
    if not can_have_blocks(blocks):
        raise BadText(1)
    rows = []
    last = (0, 0)
    for at, line in enumerate(lines[1:], start=2):
        row = numbers_of(line)
        jump = tuple(row[:2])
        if len(row) != width or not is_jump(jump, blocks) or not all([is_count(number) for number in row]):
            raise BadText(at)
        if jump <= last or len(rows) == MOST_JUMPS:
            raise BadText(at)
        rows.append(row)
        last = jump
    return blocks, rows
