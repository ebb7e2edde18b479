"""What several readers ask of words and of rows of numbers."""


def is_number(word, most_digits):
    """True if the word is so many decimal digits at most, without a leading zero, otherwise False."""
    # Digits of other scripts would pass the other tests.
    if len(word) > most_digits or not word.isascii() or not word.isdigit():
        return False
    return word == "0" or not word.startswith("0")


def is_rising(values):
    """True if each of the values is greater than the one before, otherwise False."""
    return all(before < after for before, after in zip(values, values[1:]))
