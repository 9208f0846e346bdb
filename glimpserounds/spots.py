"""Spots: pairs of the index of a glance of a record and a place at which something was read."""

from glimpserounds.basics import UNREAD, letters_for, mask_of, masks_for


def spots_of(record):
    """All spots of the record, ascending."""
    return [
        (index, place) for index, (time, reading) in enumerate(record.glances)
        for place, mark in enumerate(reading) if mark != UNREAD
    ]


def time_of_spot(record, spot):
    return record.glances[spot[0]][0]


def mask_at(record, spot):
    """The mask of the letters that agree with what was read at the spot."""
    mark = record.glances[spot[0]][1][spot[1]]
    return mask_of(letters_for(mark, record.groups))


def wanted_of(record):
    """A row (time, place, mask) for each spot of the record, ascending: what it wants to stand there."""
    return [(time_of_spot(record, spot), spot[1], mask_at(record, spot)) for spot in spots_of(record)]


def wanted_at(time, window, groups):
    """A row (time, place, mask) for each place of the window, with None for the mask where it wants nothing."""
    masks = masks_for(window, groups)
    return [(time, place, None if mark == UNREAD else masks[place]) for place, mark in enumerate(window)]
