"""Numbers and shapes that stand in texts."""

from wordshapes.checks import is_shape

DIGITS = "0123456789"


def number_told(text):
    """The integer from 0 on that a text is, in digits without needless zeros; None if it is none."""
    if not text or not all([sign in DIGITS for sign in text]):
        return None
    return int(text) if text == "0" or text[0] != "0" else None


def numbers_told(text, most):
    """The integers from 1 to the greatest one that a text has, parted by points; None if it is no such text."""
    if text == "-":
        return ()
    # Compared with the one text that each number has: so no zeros ahead, no signs and no blanks are taken.
    numbers = {str(number): number for number in range(1, most + 1)}
    parts = text.split(".")
    if not all([part in numbers for part in parts]):
        return None
    return tuple([numbers[part] for part in parts])


def shape_told(text, most):
    """The shape of so many boxes at most that a text is; None if it is none."""
    numbers = numbers_told(text, most)
    return numbers if is_shape(numbers, most) else None
