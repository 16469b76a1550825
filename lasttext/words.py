"""The words of written texts: names and numbers (sections 6, 8 and 39 of the document)."""

LETTERS = "abcdefghijklmnopqrstuvwxyz"
DIGITS = "0123456789"
MOST_CHARACTERS = 12
# No number that the document allows in a text has more, and Python reads no number of thousands of digits.
MOST_DIGITS = 7


def is_name(word):
    if word == "" or len(word) > MOST_CHARACTERS or word[0] not in LETTERS:
        return False
    return all([character in LETTERS or character in DIGITS for character in word])


def read_number(word):
    """The integer that is written so, or None."""
    digits = word.removeprefix("-")
    if digits == "" or len(digits) > MOST_DIGITS:
        return None
    if not all([character in DIGITS for character in digits]):
        return None
    number = int(word)
    # Leading zeros and -0 would not be written so.
    return number if str(number) == word else None


def read_numbers(words, bounds):
    """The tuple of as many integers as there are bounds, each within its own, or None."""
    if len(words) != len(bounds):
        return None
    found = []
    for word, (low, high) in zip(words, bounds):
        number = read_number(word)
        if number is None or number < low or number > high:
            return None
        found.append(number)
    return tuple(found)
