"""What a record tells of the window at a time: which letters can stand there, and which must."""

from glimpserounds.basics import UNREAD, are_within, check_place, check_time, check_window, letters_in, masks_for
from glimpserounds.basics import numbers_at
from glimpserounds.pairs import glimpses, possible, some_fits
from glimpserounds.records import check_record, let_pairs


def windows_at(record, time):
    """For each pair that can be, the row of masks of what can stand at each place at the time."""
    width = record.width
    return [
        [row[number] for number in numbers_at(time, width, length, pace)] for length, pace, row in possible(record)
    ]


def all_at(record, time):
    """For each place the mask of the letters that can stand there at the time, whatever the pair is."""
    union = [0] * record.width
    for window in windows_at(record, time):
        for place, mask in enumerate(window):
            union[place] |= mask
    return union


def letters(record, time, place):
    """The letters, ascending, that stand at the place at the time for some sign that fits."""
    check_record(record)
    check_time(time)
    check_place(place, record.width)
    return letters_in(all_at(record, time)[place])


def only_letter(mask):
    held = letters_in(mask)
    return held if len(held) == 1 else UNREAD


def sure(record, time):
    """The window at the time, with a question mark where it is not sure; None if no sign fits."""
    check_record(record)
    check_time(time)
    union = all_at(record, time)
    # A sign that fits shows a letter at every place.
    if 0 in union:
        return None
    return "".join([only_letter(mask) for mask in union])


def can(record, time, window):
    """Whether the window of some sign that fits agrees with the reading at the time."""
    check_record(record)
    check_time(time)
    check_window(window, record.width, record.groups)
    looks = glimpses(record) + [(time, masks_for(window, record.groups))]
    return some_fits(let_pairs(record), looks)


def must(record, time, window):
    """Whether the windows of all signs that fit agree with the reading at the time."""
    check_record(record)
    check_time(time)
    check_window(window, record.width, record.groups)
    wanted = masks_for(window, record.groups)
    return all([are_within(shown, wanted) for shown in windows_at(record, time)])
