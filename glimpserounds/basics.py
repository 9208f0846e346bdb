"""What the modules share: the checks of arguments, what stands at a place, and what a reading lets stand there."""

from glimpserounds.errors import InvalidDead, InvalidGroups, InvalidLength, InvalidPace, InvalidPaces, InvalidPlace
from glimpserounds.errors import InvalidName, InvalidTime, InvalidTimes, InvalidWidth, InvalidWindow
from glimpserounds.limits import GREATEST, MOST_LENGTH, MOST_PACE, MOST_TIMES, MOST_WIDTH

SMALL = "abcdefghijklmnopqrstuvwxyz"
CAPITALS = "ABCDEFGHIJKLMNOPQRSTUVWXYZ"
LETTERS = "-abcdefghijklmnopqrstuvwxyz"
UNREAD = "?"
LONGEST_NAME = 8


def is_whole(value, least, most):
    """Whether the value is an integer from the least to the most; True and False are no integers."""
    return isinstance(value, int) and not isinstance(value, bool) and least <= value <= most


def is_row(value, length):
    return isinstance(value, tuple) and len(value) == length


def is_name(value):
    if not isinstance(value, str) or not 1 <= len(value) <= LONGEST_NAME:
        return False
    return all([letter in SMALL for letter in value])


def check_name(name):
    if not is_name(name):
        raise InvalidName(name)


def is_time(value):
    return is_whole(value, 0, GREATEST)


def check_time(time):
    if not is_time(time):
        raise InvalidTime(time)


def check_width(width):
    if not is_whole(width, 1, MOST_WIDTH):
        raise InvalidWidth(width)


def check_place(place, width):
    if not is_whole(place, 0, width - 1):
        raise InvalidPlace(place)


def is_pace(value):
    return is_whole(value, -MOST_PACE, MOST_PACE)


def check_pace(pace):
    if not is_pace(pace):
        raise InvalidPace(pace)


def is_length(value, least):
    return is_whole(value, least, MOST_LENGTH)


def check_length(length, least):
    if not is_length(length, least):
        raise InvalidLength(length)


def first_not_rising(row, least, most):
    """The index of the first item that is no integer from least to most above the one ahead; None if all are."""
    floor = least
    for index, item in enumerate(row):
        if not is_whole(item, floor, most):
            return index
        floor = item + 1
    return None


def check_dead(dead, width):
    if not isinstance(dead, tuple):
        raise InvalidDead(None)
    index = first_not_rising(dead, 0, width - 1)
    if index is not None:
        raise InvalidDead(index)


def check_paces(paces):
    if not isinstance(paces, tuple) or len(paces) == 0:
        raise InvalidPaces(None)
    index = first_not_rising(paces, -MOST_PACE, MOST_PACE)
    if index is not None:
        raise InvalidPaces(index)


def check_times(times):
    if not isinstance(times, tuple):
        raise InvalidTimes(None)
    index = first_not_rising(times[:MOST_TIMES], 0, GREATEST)
    if index is not None:
        raise InvalidTimes(index)
    if len(times) > MOST_TIMES:
        raise InvalidTimes(MOST_TIMES)


def is_group(value, used):
    """Whether the value is a group beside groups that already hold the used letters."""
    if not isinstance(value, str) or len(value) < 2:
        return False
    return all([letter in SMALL and letter not in used and value.count(letter) == 1 for letter in value])


def first_no_group(groups):
    """The index of the first item that is no group beside those ahead of it; None if all are."""
    used = ""
    for index, group in enumerate(groups):
        if not is_group(group, used):
            return index
        used += group
    return None


def check_groups(groups):
    if not isinstance(groups, tuple):
        raise InvalidGroups(None)
    index = first_no_group(groups)
    if index is not None:
        raise InvalidGroups(index)


def number_at(time, place, length, pace):
    """The number of the letter of the text that stands at the place at the time."""
    return (place + pace * time) % length


def numbers_at(time, width, length, pace):
    """For each place of the window at the time, the number of the letter of the text that stands there."""
    start = number_at(time, 0, length, pace)
    return [(place + start) % length for place in range(width)]


def letters_for(mark, groups):
    """The letters that agree with one character of a reading; none if it cannot stand in one."""
    if mark == UNREAD:
        return LETTERS
    if mark in LETTERS:
        return mark
    # Some characters other than A to Z have a small letter from a to z, too.
    if mark not in CAPITALS:
        return ""
    for group in groups:
        if mark.lower() in group:
            return group
    return ""


def is_reading(value, width, groups):
    if not isinstance(value, str) or len(value) != width:
        return False
    return all([letters_for(mark, groups) != "" for mark in value])


def is_view(value):
    """Whether the value is a reading for some width and some groups."""
    if not isinstance(value, str) or not 1 <= len(value) <= MOST_WIDTH:
        return False
    return all([mark == UNREAD or mark in LETTERS or mark in CAPITALS for mark in value])


def check_window(window, width, groups):
    if not is_reading(window, width, groups):
        raise InvalidWindow(window)


def agrees(window, reading, groups):
    """Whether a window agrees with a reading of the same width."""
    return all([letter in letters_for(mark, groups) for letter, mark in zip(window, reading)])


def mask_of(letters):
    """These letters as one integer with a bit for each, so that what two rows of letters share is found by & alone."""
    mask = 0
    for letter in letters:
        mask |= 1 << LETTERS.index(letter)
    return mask


def letters_in(mask):
    """The letters of a mask, ascending."""
    return "".join([letter for bit, letter in enumerate(LETTERS) if (mask >> bit) & 1 == 1])


def masks_for(reading, groups):
    """For each place of a reading the mask of the letters that agree with it."""
    return [mask_of(letters_for(mark, groups)) for mark in reading]


def are_within(masks, others):
    """Whether all letters of each mask are in the one at its place among the others, too."""
    return all([mask & other == mask for mask, other in zip(masks, others)])
