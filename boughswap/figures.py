"""Numbers written by figures, and read."""

from boughswap.errors import NoText

FIGURES = "0123456789"
MOST_FIGURES = 60


def number_text(number):
    """The text of a whole number."""
    # Written by parts, as Python refuses to write numbers of thousands of figures at once.
    left = abs(number)
    parts = []
    while left >= 10 ** 60:
        left, part = divmod(left, 10 ** 60)
        parts.append(str(part).zfill(60))
    parts.append(str(left))
    return ("-" if number < 0 else "") + "".join(parts[::-1])


def read_number(text):
    """The whole number that a text of at most sixty figures writes."""
    figures = text[1:] if text.startswith("-") else text
    if not 1 <= len(figures) <= MOST_FIGURES or not all([figure in FIGURES for figure in figures]):
        raise NoText("a number is written by one to sixty figures")
    # This leaves -0 out as well.
    if figures.startswith("0") and text != "0":
        raise NoText("no 0 stands ahead of other figures, and no sign ahead of 0")
    return int(text)


def read_count(text):
    """The whole number from 0 on that a text writes."""
    number = read_number(text)
    if number < 0:
        raise NoText("this number is not below 0")
    return number


def numbers_text(numbers):
    """The texts of numbers parted by blanks, "-" for none."""
    return " ".join([number_text(number) for number in numbers]) or "-"


def read_numbers(text):
    """The tuple of the numbers that a text writes."""
    if text == "-":
        return ()
    return tuple([read_number(word) for word in text.split(" ")])
