"""What the document says of claims and certificates, taken word by word, and values with one part changed."""

import re

from tests.support import GREATEST, LETTERS, fits_by_hand, window_by_hand, agrees_by_hand

HOSTILE_CALLS = ("__eq__", "__ne__", "__len__", "__bool__", "__iter__", "__getitem__", "__hash__", "__contains__")


class Hostile:
    """A value that lets nothing be done with it."""


def refuse(self, *told):
    raise RuntimeError("nothing can be done with this value")


for each in HOSTILE_CALLS:
    setattr(Hostile, each, refuse)


def is_int(value, least, most):
    return isinstance(value, int) and not isinstance(value, bool) and least <= value <= most


def rises(row, least, most):
    return (
        isinstance(row, tuple) and all(is_int(item, least, most) for item in row)
        and all(first < last for first, last in zip(row, row[1:]))
    )


def letters_of(mark, groups):
    return {letter for letter in LETTERS if agrees_by_hand(letter, mark, groups)}


def is_reading_by_hand(value, width, groups):
    if not isinstance(value, str):
        return False
    capitals = "".join(groups).upper()
    return re.fullmatch("[?a-z" + capitals + "-]{" + str(width) + "}", value) is not None


def is_told(value):
    """Whether the value is what is told of a record, by points 7 and 8 and the bounds of Record."""
    if not isinstance(value, tuple) or len(value) != 7:
        return False
    width, dead, least, most, paces, groups, glances = value
    if not is_int(width, 1, 8) or not rises(dead, 0, width - 1):
        return False
    if not is_int(least, 1, 40) or not is_int(most, least, 40) or not rises(paces, -9, 9) or not paces:
        return False
    if not isinstance(groups, tuple) or not all(isinstance(group, str) for group in groups):
        return False
    if not all(re.fullmatch("[a-z]{2,26}", group) for group in groups):
        return False
    if len(set("".join(groups))) != len("".join(groups)) or not isinstance(glances, tuple) or len(glances) > 12:
        return False
    for glance in glances:
        if not isinstance(glance, tuple) or len(glance) != 2 or not is_int(glance[0], 0, GREATEST):
            return False
        if not is_reading_by_hand(glance[1], width, groups) or any(glance[1][place] != "?" for place in dead):
            return False
    return True


def spots_by_hand(told):
    return [(i, j) for i, (time, reading) in enumerate(told[6]) for j, mark in enumerate(reading) if mark != "?"]


def is_one_of(value, rows):
    """Whether the value is one of these tuples of integers."""
    if not isinstance(value, tuple) or not all(is_int(item, -GREATEST, GREATEST) for item in value):
        return False
    return value in rows


def place_of(told, spot):
    """Where a spot stands: its time and its place."""
    return told[6][spot[0]][0], spot[1]


def together_by_hand(one, other, length, pace):
    return ((one[1] + pace * one[0]) - (other[1] + pace * other[0])) % length == 0


def letters_at(told, spot):
    return letters_of(told[6][spot[0]][1][spot[1]], told[5])


def clash_by_hand(one, spot, other, further, length, pace):
    return (
        together_by_hand(place_of(one, spot), place_of(other, further), length, pace)
        and not letters_at(one, spot) & letters_at(other, further)
    )


def lets_by_hand(told, length, pace):
    return told[2] <= length <= told[3] and pace in told[4]


def is_word(value, word):
    return isinstance(value, str) and value == word


def barred_by_hand(told, rest, certificate):
    if len(rest) != 2 or not is_int(rest[0], 1, 40) or not is_int(rest[1], -9, 9):
        return False
    if not isinstance(certificate, tuple):
        return False
    if not lets_by_hand(told, *rest):
        return len(certificate) == 0
    return is_bar_by_hand(told, certificate, *rest)


def is_bar_by_hand(told, row, length, pace):
    spots = spots_by_hand(told)
    if len(row) != 2 or not all(is_one_of(spot, spots) for spot in row):
        return False
    return clash_by_hand(told, row[0], told, row[1], length, pace)


def is_asked_by_hand(told, rest):
    return len(rest) == 2 and is_int(rest[0], 0, GREATEST) and is_reading_by_hand(rest[1], told[0], told[5])


def can_by_hand(told, rest, certificate):
    if not is_asked_by_hand(told, rest) or not isinstance(certificate, tuple) or len(certificate) != 2:
        return False
    text, pace = certificate
    if not isinstance(text, str) or not re.fullmatch("[a-z-]{1,40}", text) or not is_int(pace, -9, 9):
        return False
    time, window = rest
    return fits_by_hand(told, text, pace) and agrees_by_hand(window_by_hand(text, pace, time, told[0]), window, told[5])


def parts_by_hand(told, certificate, shows):
    """Whether the certificate has a part for each length and pace that bars them or of which the row shows all."""
    let = [(length, pace) for length in range(told[2], told[3] + 1) for pace in told[4]]
    if not isinstance(certificate, tuple) or len(certificate) != len(let):
        return False
    for part, (length, pace) in zip(certificate, let):
        if not isinstance(part, tuple) or not part:
            return False
        if is_word(part[0], "barred"):
            if not is_bar_by_hand(told, part[1:], length, pace):
                return False
        elif not is_word(part[0], "told") or len(part) != 2 or not isinstance(part[1], tuple):
            return False
        elif not shows(part[1], length, pace):
            return False
    return True


def must_by_hand(told, rest, certificate):
    if not is_asked_by_hand(told, rest):
        return False
    time, window = rest
    spots = spots_by_hand(told)

    def shows(row, length, pace):
        if len(row) != len(window):
            return False
        for place, (mark, spot) in enumerate(zip(window, row)):
            if mark == "?" and spot is None:
                continue
            if mark == "?" or not is_one_of(spot, spots):
                return False
            if not together_by_hand((time, place), place_of(told, spot), length, pace):
                return False
            if not letters_at(told, spot) <= letters_of(mark, told[5]):
                return False
        return True

    return parts_by_hand(told, certificate, shows)


def implies_by_hand(told, rest, certificate):
    if len(rest) != 1 or not is_told(rest[0]):
        return False
    other = rest[0]
    spots = spots_by_hand(told)
    wanted = sorted(spots_by_hand(other))

    def shows(row, length, pace):
        if not lets_by_hand(other, length, pace) or len(row) != len(wanted):
            return False
        return all(
            is_one_of(spot, spots)
            and together_by_hand(place_of(told, spot), place_of(other, want), length, pace)
            and letters_at(told, spot) <= letters_at(other, want)
            for spot, want in zip(row, wanted)
        )

    return parts_by_hand(told, certificate, shows)


def apart_by_hand(told, rest, certificate):
    if len(rest) != 1 or not is_told(rest[0]):
        return False
    both = (told, rest[0])
    known = [(side, *spot) for side in (0, 1) for spot in spots_by_hand(both[side])]
    shared = [
        (length, pace) for length in range(told[2], told[3] + 1) for pace in told[4]
        if lets_by_hand(rest[0], length, pace)
    ]
    if not isinstance(certificate, tuple) or len(certificate) != len(shared):
        return False
    for part, (length, pace) in zip(certificate, shared):
        if not isinstance(part, tuple) or len(part) != 2 or not all(is_one_of(spot, known) for spot in part):
            return False
        (side, *spot), (further_side, *further) = part
        if not clash_by_hand(both[side], tuple(spot), both[further_side], tuple(further), length, pace):
            return False
    return True


BY_HAND = {
    "barred": barred_by_hand, "can": can_by_hand, "must": must_by_hand, "implies": implies_by_hand,
    "apart": apart_by_hand,
}


def accepts_by_hand(claim, certificate):
    if not isinstance(claim, tuple) or len(claim) < 2 or not isinstance(claim[0], str):
        return False
    if claim[0] not in BY_HAND or not is_told(claim[1]):
        return False
    return BY_HAND[claim[0]](claim[1], claim[2:], certificate)


def one_changed(value):
    """All values like this one in which one part is changed, left out, twice, exchanged or of another kind."""
    if isinstance(value, tuple):
        yield from other_tuples(value)
    elif isinstance(value, bool) or value is None:
        yield from (0, 1, (), "", (0, 0), not value)
    elif isinstance(value, int):
        yield from (value + 1, value - 1, -value, value + 40, None, str(value), (value,), [value], bool(value))
    elif isinstance(value, str):
        yield from other_strings(value)


def other_tuples(row):
    yield list(row)
    yield dict.fromkeys(range(len(row)))
    yield row + (None,)
    yield (row,)
    yield None
    yield ()
    for at, item in enumerate(row):
        yield row[:at] + row[at + 1:]
        yield row[:at] + (item, item) + row[at + 1:]
        if at + 1 < len(row):
            yield row[:at] + (row[at + 1], item) + row[at + 2:]
        for other in one_changed(item):
            yield row[:at] + (other,) + row[at + 1:]


def other_strings(text):
    yield from (text + "a", text + "?", text[:-1], text[1:], text.upper(), text[::-1], tuple(text), list(text))
    yield from (text.encode(), None, 0, "", text + "\n", " " + text)
    for at, mark in enumerate(text):
        for other in "ab?-A.":
            if other != mark:
                yield text[:at] + other + text[at + 1:]


def with_each_in_turn(value, put):
    """All values like this one with what is put in the place of one part, whatever and however deep it is."""
    yield put
    if isinstance(value, tuple):
        for at, item in enumerate(value):
            for other in with_each_in_turn(item, put):
                yield value[:at] + (other,) + value[at + 1:]
