"""One record beside another one, and the first glances of a record beside its last ones."""

from glimpserounds.basics import are_within
from glimpserounds.pairs import cells, glimpses, possible, some_fits
from glimpserounds.records import check_record, let_pairs, lets, shared_pairs


def implies(one, other):
    """Whether each sign that fits the one fits the other."""
    check_record(one)
    check_record(other)
    looks = glimpses(other)
    for length, pace, row in possible(one):
        if not lets(other, length, pace) or not are_within(row, cells(looks, length, pace)):
            return False
    return True


def alike(one, other):
    """Whether the same signs fit both."""
    return implies(one, other) and implies(other, one)


def cells_of_both(one, other):
    """A row (length, pace, cells of the one, cells of the other) for each pair that both let, ascending."""
    first = glimpses(one)
    last = glimpses(other)
    shared = shared_pairs(one, other)
    return [(length, pace, cells(first, length, pace), cells(last, length, pace)) for length, pace in shared]


def meet(first, last):
    """Whether one text can have its letters in both rows of cells."""
    return 0 not in [mask & other for mask, other in zip(first, last)]


def apart(one, other):
    """Whether no sign fits both."""
    check_record(one)
    check_record(other)
    return not any([meet(first, last) for length, pace, first, last in cells_of_both(one, other)])


def together(one, other):
    """The triples (length, pace, shift) with which one text, begun at the shift for the other, fits both."""
    check_record(one)
    check_record(other)
    found = []
    for length, pace, first, last in cells_of_both(one, other):
        for shift in range(length):
            if meet(first[shift:] + first[:shift], last):
                found.append((length, pace, shift))
    return tuple(found)


def time_of(look):
    return look[0]


def changes(record):
    """The numbers of glances, in the order of their times, behind which the text can have changed."""
    check_record(record)
    let = let_pairs(record)
    looks = sorted(glimpses(record), key=time_of)
    found = []
    for number in range(len(looks) + 1):
        if some_fits(let, looks[:number]) and some_fits(let, looks[number:]):
            found.append(number)
    return tuple(found)
