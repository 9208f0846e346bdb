"""The lines of the console: which there are, and what is told in them."""

from glimpserounds.basics import is_name, is_view
from glimpserounds.limits import GREATEST, MOST_LENGTH, MOST_PACE, MOST_WIDTH

DIGITS = "0123456789"
# As many as the greatest number that a line can tell has.
MOST_DIGITS = 31


def whole_in(word, least, most):
    """The integer from the least to the most that str writes as this word; None if there is none."""
    digits = word.removeprefix("-")
    if not 1 <= len(digits) <= MOST_DIGITS or not all([digit in DIGITS for digit in digits]):
        return None
    number = int(word)
    return number if str(number) == word and least <= number <= most else None


def bounds_in(words):
    """The width, the least and the most length and the pace; None if the words are not such."""
    if len(words) != 4:
        return None
    least = whole_in(words[1], 1, MOST_LENGTH)
    if least is None:
        return None
    width = whole_in(words[0], 1, MOST_WIDTH)
    most = whole_in(words[2], least, MOST_LENGTH)
    pace = whole_in(words[3], -MOST_PACE, MOST_PACE)
    return None if width is None or most is None or pace is None else (width, least, most, pace)


def view_in(words):
    """The time and the window; None if the words are not such."""
    if len(words) != 2 or not is_view(words[1]):
        return None
    time = whole_in(words[0], 0, GREATEST)
    return None if time is None else (time, words[1])


def time_in(words):
    if len(words) != 1:
        return None
    time = whole_in(words[0], 0, GREATEST)
    return None if time is None else (time,)


def name_in(words):
    return (words[0],) if len(words) == 1 and is_name(words[0]) else None


def nothing_in(words):
    return () if len(words) == 0 else None


# What stands behind the name and each of the words.
TAILS = {
    "=": bounds_in, "sees": view_in, "can": view_in, "must": view_in, "implies": name_in, "apart": name_in,
    "sure": time_in, "fits": nothing_in, "number": nothing_in, "shortest": nothing_in, "pairs": nothing_in,
}


def order_in(line):
    """What the line tells: its word, then the name and what else there is; None if it is no line."""
    if not isinstance(line, str):
        return None
    words = line.split(" ")
    if len(words) == 1:
        return ("undo",) if line == "undo" else None
    # This comes first, as what is dropped can have a name like the word of a line about one record.
    if len(words) == 2 and words[0] == "drop":
        return ("drop", words[1]) if is_name(words[1]) else None
    if not is_name(words[0]) or words[1] not in TAILS:
        return None
    reader = TAILS[words[1]]
    tail = reader(words[2:])
    return None if tail is None else (words[1], words[0], *tail)
