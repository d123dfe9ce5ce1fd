"""Names, days, spans and numbers, and whether something is one."""

LETTERS = "abcdefghijklmnopqrstuvwxyz"
DIGITS = "0123456789"

LONGEST_NAME = 12
RESERVED = (
    "fact", "known", "due", "or", "plus", "minus", "times", "least", "most",
    "percent", "if", "below", "same", "not", "both", "either",
)

DAYS = 10000

LONGEST_NUMBER = 9
LARGEST_NUMBER = 999999999


def is_name(word):
    """Return whether this is a name."""
    if word == "" or len(word) > LONGEST_NAME or word in RESERVED:
        return False
    if word[0] not in LETTERS:
        return False
    return all([sign in LETTERS or sign in DIGITS for sign in word])


def is_day(day):
    """Return whether this is a day."""
    return 0 <= day < DAYS


def is_span(span):
    """Return whether this is a span of days."""
    if not isinstance(span, tuple) or len(span) != 2:
        return False
    first, after = span
    return 0 <= first < after <= DAYS


def is_value(value):
    """Return whether this is a number that a fact can have."""
    return -LARGEST_NUMBER <= value <= LARGEST_NUMBER


def is_number(word):
    """Return whether this word writes a number as the text of a rule does."""
    # Not `isdigit`, and not `int` alone: both take signs that are no digits here.
    digits = word.removeprefix("-")
    if digits == "" or len(digits) > LONGEST_NUMBER:
        return False
    if not all([sign in DIGITS for sign in digits]):
        return False
    return word == "0" or not digits.startswith("0")
