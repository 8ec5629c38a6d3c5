"""How numbers, sets of vertices and words are written, in texts and in commands."""

MOST_DIGITS = 2


def number_in(text):
    """The number that is written so, with at most two digits, or None."""
    # No number here has more digits, and a text of very many is not for int to read.
    if not text.isascii() or not text.isdigit() or len(text) > MOST_DIGITS:
        return None
    if len(text) > 1 and text.startswith("0"):
        return None
    return int(text)


def set_in(text):
    """The ascending tuple of the numbers that are written so, one or more, or None."""
    numbers = [number_in(part) for part in text.split(",")]
    if None in numbers or any([one >= other for one, other in zip(numbers, numbers[1:])]):
        return None
    return tuple(numbers)


def word_in(text):
    """The word that is written so, or None."""
    if text == ".":
        return ()
    if text == "" or not all([sign in ("0", "1") for sign in text]):
        return None
    return tuple([int(sign) for sign in text])


def numbers_text(numbers):
    """How several numbers are written."""
    return ",".join([str(number) for number in numbers])


def word_text(word):
    """How a word is written."""
    return "".join([str(letter) for letter in word]) if len(word) > 0 else "."
