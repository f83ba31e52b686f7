"""Numbers that are written as words."""

DIGITS = "0123456789"
# Numbers in traces and certificates may have so many digits.
MOST_DIGITS = 60


def read_number(word, most_digits):
    """Return the number that the word writes in at most so many digits, or None."""
    # The length comes first: Python refuses to read words of thousands of digits.
    if not 1 <= len(word) <= most_digits:
        return None
    if not all([character in DIGITS for character in word]):
        return None
    if word[0] == "0" and len(word) > 1:
        return None
    return int(word)
