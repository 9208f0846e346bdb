"""Certificates: claims together with what the checker needs to see that they are so.

The letters that agree with two spots of one record lie within each other or have none in common, as groups do not
overlap. So on each number of a text one spot, the narrowest, tells all that the spots there tell together, and if
any two spots there bar a length and a pace, the narrowest one and some other do.
"""

from glimpserounds.basics import check_length, check_pace, check_time, check_window, masks_for, number_at
from glimpserounds.pairs import cells, glimpses, least_text
from glimpserounds.records import check_record, let_pairs, lets, shared_pairs
from glimpserounds.spots import spots_of, wanted_at, wanted_of


def labelled(record, ahead):
    """A row (label, time, place, mask) for each spot of the record; the label is what is ahead, then the spot."""
    return [
        (ahead + spot, time, place, mask) for spot, (time, place, mask) in zip(spots_of(record), wanted_of(record))
    ]


def narrowest(marks, length, pace):
    """For each number on which a mark falls a pair of the label and the mask of the narrowest one there."""
    found = {}
    for label, time, place, mask in marks:
        number = number_at(time, place, length, pace)
        if number not in found or mask & found[number][1] == mask:
            found[number] = (label, mask)
    return found


def bar(marks, length, pace):
    """The labels of two marks that fall together and share no letter; None if there are none."""
    found = narrowest(marks, length, pace)
    for label, time, place, mask in marks:
        other, least = found[number_at(time, place, length, pace)]
        if mask & least == 0:
            return (label, other)
    return None


def teller(found, number, wanted):
    """The label of the mark that lets nothing but what is wanted stand at the number; None if there is none."""
    if number not in found:
        return None
    label, mask = found[number]
    return label if mask & wanted == mask else None


def row_for(marks, wanted, length, pace):
    """For each row of what is wanted the label of a mark that tells it; None if one of them is not told."""
    found = narrowest(marks, length, pace)
    row = []
    for time, place, mask in wanted:
        label = None if mask is None else teller(found, number_at(time, place, length, pace), mask)
        if label is None and mask is not None:
            return None
        row.append(label)
    return tuple(row)


def part_for(marks, wanted, bounds, length, pace):
    """What shows for one length and pace that they are barred or all that is wanted is so; None if nothing does."""
    barred = bar(marks, length, pace)
    if barred is not None:
        return ("barred", *barred)
    row = row_for(marks, wanted, length, pace) if lets(bounds, length, pace) else None
    return None if row is None else ("told", row)


def all_parts(record, wanted, bounds):
    """The parts for all lengths and paces of the record; None if one of them has none."""
    marks = labelled(record, ())
    parts = [part_for(marks, wanted, bounds, length, pace) for length, pace in let_pairs(record)]
    return None if None in parts else tuple(parts)


def certified(claim, certificate):
    """The pair of both; None if there is no certificate."""
    return None if certificate is None else (claim, certificate)


def certify_barred(record, length, pace):
    """That no sign with this length and pace fits the record."""
    check_record(record)
    check_length(length, 1)
    check_pace(pace)
    claim = ("barred", record.told, length, pace)
    if not lets(record, length, pace):
        return (claim, ())
    return certified(claim, bar(labelled(record, ()), length, pace))


def certify_can(record, time, window):
    """That the window of some sign that fits agrees with the reading at the time."""
    check_record(record)
    check_time(time)
    check_window(window, record.width, record.groups)
    looks = glimpses(record) + [(time, masks_for(window, record.groups))]
    for length, pace in let_pairs(record):
        row = cells(looks, length, pace)
        if 0 not in row:
            return (("can", record.told, time, window), (least_text(row), pace))
    return None


def certify_must(record, time, window):
    """That the windows of all signs that fit agree with the reading at the time."""
    check_record(record)
    check_time(time)
    check_window(window, record.width, record.groups)
    claim = ("must", record.told, time, window)
    return certified(claim, all_parts(record, wanted_at(time, window, record.groups), record))


def certify_implies(one, other):
    """That each sign that fits the one fits the other."""
    check_record(one)
    check_record(other)
    return certified(("implies", one.told, other.told), all_parts(one, wanted_of(other), other))


def part_between(first, last, length, pace):
    """Two labels of marks, from either record, that leave no sign for both; None if there are none."""
    for marks in (first, last):
        barred = bar(marks, length, pace)
        if barred is not None:
            return barred
    found = narrowest(first, length, pace)
    others = narrowest(last, length, pace)
    for number, (label, mask) in found.items():
        if number in others and mask & others[number][1] == 0:
            return (label, others[number][0])
    return None


def certify_apart(one, other):
    """That no sign fits both."""
    check_record(one)
    check_record(other)
    first = labelled(one, (0,))
    last = labelled(other, (1,))
    parts = [part_between(first, last, length, pace) for length, pace in shared_pairs(one, other)]
    return certified(("apart", one.told, other.told), None if None in parts else tuple(parts))
