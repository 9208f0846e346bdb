"""The checker: it looks through a certificate step by step and finds out nothing by itself."""

from glimpserounds.basics import UNREAD, agrees, is_length, is_pace, is_reading, is_row, is_time, is_whole, number_at
from glimpserounds.records import let_pairs, lets, record_told, shared_pairs
from glimpserounds.signs import Sign, is_text
from glimpserounds.spots import mask_at, time_of_spot, wanted_at, wanted_of


def is_spot(value, record):
    if not is_row(value, 2):
        return False
    index, place = value
    if not is_whole(index, 0, len(record) - 1) or not is_whole(place, 0, record.width - 1):
        return False
    return record.glances[index][1][place] != UNREAD


def number_of_spot(record, spot, length, pace):
    return number_at(time_of_spot(record, spot), spot[1], length, pace)


def clash(one, spot, other, further, length, pace):
    """Whether a spot of the one and a further one of the other fall together and no letter agrees with both."""
    if number_of_spot(one, spot, length, pace) != number_of_spot(other, further, length, pace):
        return False
    return mask_at(one, spot) & mask_at(other, further) == 0


def is_bar(row, record, length, pace):
    """Whether the row is a pair of spots of the record that bar the length and the pace."""
    if not is_row(row, 2) or not is_spot(row[0], record) or not is_spot(row[1], record):
        return False
    return clash(record, row[0], record, row[1], length, pace)


def tells(spot, record, want, length, pace):
    """Whether the spot makes sure what is wanted; where nothing is wanted it has to be None."""
    time, place, mask = want
    if mask is None:
        return spot is None
    if not is_spot(spot, record):
        return False
    if number_of_spot(record, spot, length, pace) != number_at(time, place, length, pace):
        return False
    held = mask_at(record, spot)
    return held & mask == held


def is_telling(row, record, wanted, length, pace):
    if not is_row(row, len(wanted)):
        return False
    return all([tells(spot, record, want, length, pace) for spot, want in zip(row, wanted)])


def is_headed(value, word, length):
    """Whether the value is a tuple of this length that begins with the word."""
    # Only strings are compared, as nothing is known of how other values compare.
    return is_row(value, length) and isinstance(value[0], str) and value[0] == word


def shows_pair(part, record, wanted, bounds, length, pace):
    """Whether the part shows for one length and pace that they are barred, or that all that is wanted is so."""
    if is_headed(part, "barred", 3):
        return is_bar(part[1:], record, length, pace)
    if is_headed(part, "told", 2):
        return lets(bounds, length, pace) and is_telling(part[1], record, wanted, length, pace)
    return False


def shows_all(certificate, record, wanted, bounds):
    """Whether the parts show what is wanted, and that the bounds let it, for all lengths and paces of the record."""
    let = let_pairs(record)
    if not is_row(certificate, len(let)):
        return False
    return all([
        shows_pair(part, record, wanted, bounds, length, pace) for part, (length, pace) in zip(certificate, let)
    ])


def shows_barred(parts, certificate):
    if not is_row(parts, 3):
        return False
    told, length, pace = parts
    record = record_told(told)
    if record is None or not is_length(length, 1) or not is_pace(pace):
        return False
    if not lets(record, length, pace):
        return is_row(certificate, 0)
    return is_bar(certificate, record, length, pace)


def record_asked(parts):
    """The record of a told, a time and a window that is a reading for it; None if the parts are not such."""
    if not is_row(parts, 3):
        return None
    told, time, window = parts
    record = record_told(told)
    if record is None or not is_time(time) or not is_reading(window, record.width, record.groups):
        return None
    return record


def shows_can(parts, certificate):
    record = record_asked(parts)
    if record is None or not is_row(certificate, 2):
        return False
    text, pace = certificate
    if not is_text(text) or not is_pace(pace):
        return False
    sign = Sign(text, pace)
    return record.fits(sign) and agrees(sign.window(parts[1], record.width), parts[2], record.groups)


def shows_must(parts, certificate):
    record = record_asked(parts)
    if record is None:
        return False
    return shows_all(certificate, record, wanted_at(parts[1], parts[2], record.groups), record)


def records_told(parts):
    """The two records of which these are the told; an empty tuple if they are not such."""
    if not is_row(parts, 2):
        return ()
    records = (record_told(parts[0]), record_told(parts[1]))
    return () if records[0] is None or records[1] is None else records


def shows_implies(parts, certificate):
    records = records_told(parts)
    if len(records) == 0:
        return False
    one, other = records
    return shows_all(certificate, one, wanted_of(other), other)


def is_side(value, records):
    """Whether the value is a triple of the index of one of the records and a spot of it."""
    return is_row(value, 3) and is_whole(value[0], 0, 1) and is_spot(value[1:], records[value[0]])


def parts_pair(part, records, length, pace):
    """Whether the part shows, for one length and pace, that no sign fits both records."""
    if not is_row(part, 2) or not is_side(part[0], records) or not is_side(part[1], records):
        return False
    first, last = part
    return clash(records[first[0]], first[1:], records[last[0]], last[1:], length, pace)


def shows_apart(parts, certificate):
    records = records_told(parts)
    if len(records) == 0:
        return False
    one, other = records
    shared = shared_pairs(one, other)
    if not is_row(certificate, len(shared)):
        return False
    return all([parts_pair(part, records, length, pace) for part, (length, pace) in zip(certificate, shared)])


PROOFS = {
    "barred": shows_barred, "can": shows_can, "must": shows_must, "implies": shows_implies, "apart": shows_apart,
}


def accepts(claim, certificate):
    """Whether these are a claim and a certificate for it, and what is told there is so."""
    if not isinstance(claim, tuple) or len(claim) == 0 or not isinstance(claim[0], str) or claim[0] not in PROOFS:
        return False
    shows = PROOFS[claim[0]]
    return shows(claim[1:], certificate)
