"""The times at which a look makes the window at another time sure, whatever is seen then."""

from glimpserounds.basics import check_time, check_times, numbers_at
from glimpserounds.errors import TooMany
from glimpserounds.limits import MOST_PAIRS
from glimpserounds.pairs import possible
from glimpserounds.records import check_record


def settles(record, times, time):
    """Whether the times settle the time for the record."""
    check_record(record)
    check_times(times)
    check_time(time)
    return is_settled(record, twosomes(record), times, time)


def settling(record, times, time):
    """The least sets of the times that settle the time, as tuples of indexes, the smaller sets first."""
    check_record(record)
    check_times(times)
    check_time(time)
    rows = twosomes(record)
    found = []
    for indexes in sets_of_indexes(len(times)):
        # What a part settles the whole settles, too, so only sets without such a part are looked at.
        if holds_none(indexes, found) and is_settled(record, rows, [times[index] for index in indexes], time):
            found.append(indexes)
    return tuple(found)


def twosomes(record):
    """All twosomes of triples (length, pace, cells) of pairs that can be, also of one with itself."""
    rows = possible(record)
    if len(rows) > MOST_PAIRS:
        raise TooMany(MOST_PAIRS)
    return [(one, other) for at, one in enumerate(rows) for other in rows[at:]]


def size_and_order(indexes):
    return (len(indexes), indexes)


def sets_of_indexes(number):
    """All sets of the indexes below the number, by their sizes, then ascending."""
    rows = [()]
    for index in range(number):
        rows = rows + [row + (index,) for row in rows]
    return sorted(rows, key=size_and_order)


def holds_none(indexes, parts):
    """Whether none of the parts lies within these indexes."""
    return not any([all([index in indexes for index in part]) for part in parts])


def is_settled(record, rows, times, time):
    """Whether no twosome has two signs that look alike at all of the times and not at the time."""
    for one, other in rows:
        if can_part(record, one, other, times, time):
            return False
    return True


def can_part(record, one, other, times, time):
    """Whether a sign of the one and a sign of the other look alike at all of the times and not at the time."""
    leaders = bound_together(record, one, other, times)
    masks = masks_of_leaders(leaders, one[2] + other[2])
    if 0 in masks:
        return False
    shown = shown_together(one, other, time, record.width)
    return any([can_differ(masks, leader_of(leaders, first), leader_of(leaders, last)) for first, last in shown])


def shown_together(one, other, time, width):
    """For each place the two numbers that stand there at the time, those of the other sign counted on from the one."""
    firsts = numbers_at(time, width, one[0], one[1])
    lasts = numbers_at(time, width, other[0], other[1])
    return [(first, one[0] + last) for first, last in zip(firsts, lasts)]


def bound_together(record, one, other, times):
    """For each number of both signs one of those that bear the same letter if they look alike at all of the times.

    Following these from number to number ends at the leader, which is the same for all that bear one letter.
    """
    leaders = list(range(one[0] + other[0]))
    for time in times:
        for place, (first, last) in enumerate(shown_together(one, other, time, record.width)):
            if place not in record.dead:
                leaders[leader_of(leaders, last)] = leader_of(leaders, first)
    return leaders


def leader_of(leaders, number):
    while leaders[number] != number:
        number = leaders[number]
    return number


def masks_of_leaders(leaders, row):
    """The cells, where that of each leader holds what all numbers with this leader let."""
    masks = list(row)
    for number, mask in enumerate(row):
        masks[leader_of(leaders, number)] &= mask
    return masks


def can_differ(masks, first, last):
    """Whether the letters of two leaders, which are free of each other unless they are one, can be unlike."""
    if first == last:
        return False
    return masks[first] != masks[last] or not is_single(masks[first])


def is_single(mask):
    # Taking one away changes the lowest bit that is set and those below it alone.
    return mask & (mask - 1) == 0
