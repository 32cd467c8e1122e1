"""The lines of texts."""

# The greatest number that a text may hold is 10 ** 30. Longer numbers are never valid,
# and Python refuses to read very long ones.
MOST_DIGITS = 31


def is_number(word):
    """Return whether the word is a number as texts write it."""
    if not word.isascii() or not word.isdigit() or len(word) > MOST_DIGITS:
        return False
    return word == "0" or not word.startswith("0")


def numbers_of(line):
    """Return the list of the numbers of the line, an empty one if a word is no number."""
    words = line.split(" ")
    if not all([is_number(word) for word in words]):
        return []
    return [int(word) for word in words]


def number_behind(line, word):
    """Return the number that follows the word and one space on the line, or -1."""
    if not line.startswith(word + " "):
        return -1
    numbers = numbers_of(line[len(word) + 1:])
    return numbers[0] if len(numbers) == 1 else -1
