"""The pairs of a length and a pace that can be for a record, and the signs that fit with them.

For one pair each letter of the text is bounded by the marks that fall on its number, and by nothing else:
so the texts that fit are all the choices of one letter from each of these bounds, the cells.
"""

from glimpserounds.basics import LETTERS, letters_in, mask_of, masks_for, numbers_at
from glimpserounds.records import check_record, let_pairs
from glimpserounds.signs import Sign


def glimpses(record):
    """The glances of a record with a mask in the place of each mark."""
    groups = record.groups
    return [(time, masks_for(reading, groups)) for time, reading in record.glances]


def cells(looks, length, pace):
    """For each number of a text of this length at this pace, the mask of the letters that agree with all looks."""
    row = [mask_of(LETTERS)] * length
    for time, masks in looks:
        for number, mask in zip(numbers_at(time, len(masks), length, pace), masks):
            row[number] &= mask
    return row


def some_fits(let, looks):
    """Whether, with one of the pairs that are let, some sign agrees with all looks."""
    for length, pace in let:
        if 0 not in cells(looks, length, pace):
            return True
    return False


def possible(record):
    """The triples (length, pace, cells) of all pairs that can be for the record, ascending."""
    looks = glimpses(record)
    rows = [(length, pace, cells(looks, length, pace)) for length, pace in let_pairs(record)]
    return [(length, pace, row) for length, pace, row in rows if 0 not in row]


def number_of_texts(row):
    number = 1
    for mask in row:
        number *= len(letters_in(mask))
    return number


def least_text(row):
    """The least text with its letters in these cells, each of which has some."""
    return "".join([letters_in(mask)[0] for mask in row])


def pairs(record):
    """The pairs (length, pace) that can be for the record, ascending."""
    check_record(record)
    return tuple([(length, pace) for length, pace, row in possible(record)])


def number_of(record):
    """How many signs fit the record."""
    check_record(record)
    return sum([number_of_texts(row) for length, pace, row in possible(record)])


def shortest(record):
    """The sign that fits with the least length, then the least pace, then the least text; None if none fits."""
    check_record(record)
    found = possible(record)
    if len(found) == 0:
        return None
    length, pace, row = found[0]
    return Sign(least_text(row), pace)
