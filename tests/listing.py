"""What the document says of signs, taken word by word over all signs of short lengths, one after the other."""

import itertools

from glimpserounds.records import Record
from tests.support import GREATEST, LETTERS, agrees_by_hand, fits_by_hand, some_reading, window_by_hand


class Listing:
    """All signs with texts of some letters up to a length, and what those that fit show.

    Without spare letters all 27 are listed. Otherwise the records and questions name only the named letters, so that
    all others are alike to them: the two spare ones stand for all of these (two, as two signs may have to differ).
    """

    def __init__(self, named, spare, longest):
        self.named = named
        self.spare = spare
        self.longest = longest
        self.texts = {
            length: ["".join(row) for row in itertools.product(sorted(named + spare), repeat=length)]
            for length in range(1, longest + 1)
        }

    def fitting(self, record):
        return [
            (text, pace) for length in range(record.least, record.most + 1) for pace in record.paces
            for text in self.texts[length] if fits_by_hand(record.told, text, pace)
        ]

    def number(self, signs):
        """How many signs these are, if the first spare letter is put for each of those that are not named."""
        if not self.spare:
            return len(signs)
        first, second = self.spare
        return sum((27 - len(self.named)) ** text.count(first) for text, pace in signs if second not in text)

    def shown(self, signs, time, place, width):
        found = {window_by_hand(text, pace, time, width)[place] for text, pace in signs}
        if self.spare and self.spare[0] in found:
            found |= set(LETTERS) - set(self.named)
        return "".join(sorted(found))


ALL = Listing(LETTERS, "", 2)
FEW = Listing("-abc", "yz", 4)


def some_time(choice):
    return choice.choice((choice.randint(0, 5), choice.randint(0, 99), GREATEST - choice.randint(0, 9)))


def some_bounds(choice, longest):
    """A record without glances that lets texts up to this length."""
    width = choice.randint(1, 4)
    dead = tuple(place for place in range(width) if choice.random() < 0.2)
    least = choice.randint(1, longest)
    paces = tuple(sorted(choice.sample(range(-9, 10), choice.randint(1, 3))))
    groups = choice.choice(((), ("ab",), ("ca",), ("bca",), ("cb",)))
    return Record(width, dead=dead, least=least, most=choice.randint(least, longest), paces=paces, groups=groups)


def some_record(choice, longest=4, wrong=0.06, most=5):
    """A record with some glances at a sign, a few of them wrong."""
    record = some_bounds(choice, longest)
    text = "".join(choice.choices("aabc-", k=choice.randint(record.least, record.most)))
    pace = choice.choice(record.paces)
    for number in range(choice.randint(0, most)):
        time = some_time(choice)
        record = record.seen(time, some_reading(choice, record, text, pace, time, wrong))
    return record


def some_window(choice, record, signs):
    """A reading with letters at dead places, too, mostly near to what one of the signs shows."""
    marks = "-abc" + "".join(record.groups).upper()
    if not signs or choice.random() < 0.3:
        return "".join(choice.choice("???" + marks) for place in range(record.width))
    text, pace = choice.choice(signs)
    living = Record(record.width, groups=record.groups)
    time = choice.choice((0, 1, GREATEST))
    reading = some_reading(choice, living, text, pace, time, 0.05)
    return "".join(mark if mark in marks else "?" for mark in reading)


def cut(choice, record):
    """A record with other bounds, and of the glances of this one only some, with fewer places and other groups."""
    width = choice.randint(1, record.width)
    least = max(1, min(4, record.least + choice.choice((0, 0, -1, 1))))
    most = max(least, min(4, record.most + choice.choice((0, 0, 1, -1))))
    paces = tuple(sorted({*record.paces, *choice.sample(range(-9, 10), 1)})[choice.choice((0, 0, 0, 1)):])
    groups = choice.choice((record.groups, ("abc",), ("ab",), ()))
    made = Record(width, least=least, most=most, paces=paces, groups=groups)
    for time, reading in record.glances:
        if choice.random() < 0.8:
            made = made.seen(time, "".join(blurred(choice, mark, groups) for mark in reading[:width]))
    return made


def blurred(choice, mark, groups):
    capital = mark.upper() if any(mark.lower() in group for group in groups) else "?"
    return choice.choice((mark if mark in "-abc" else capital, capital, "?"))


def sharpened(choice, record, signs):
    """The record with a further glance, mostly at one of its signs."""
    if not signs:
        return record
    text, pace = choice.choice(signs)
    time = some_time(choice)
    reading = "".join(
        choice.choice((letter, "?")) if place not in record.dead and letter in "-abc" else "?"
        for place, letter in enumerate(text[(place + pace * time) % len(text)] for place in range(record.width))
    )
    return record.seen(time, reading)


def letters_by_hand(told, length, pace, number):
    """The letters that can be number so and so of a text with this length and pace, for any length."""
    width, dead, least, most, paces, groups, glances = told
    marks = [
        reading[place] for time, reading in glances for place in range(width)
        if (place + pace * time - number) % length == 0 and reading[place] != "?"
    ]
    return {letter for letter in LETTERS if all(agrees_by_hand(letter, mark, groups) for mark in marks)}


def texts_by_hand(told, length, pace):
    """A set of letters for each number of the text; None if the record does not let the pair or no text fits."""
    if not told[2] <= length <= told[3] or pace not in told[4]:
        return None
    rows = [letters_by_hand(told, length, pace, number) for number in range(length)]
    return rows if all(rows) else None


def possible_by_hand(record):
    """The pairs that can be for a record of any lengths, each with its sets of letters."""
    found = {}
    for length in range(record.least, record.most + 1):
        for pace in record.paces:
            rows = texts_by_hand(record.told, length, pace)
            if rows is not None:
                found[length, pace] = rows
    return found


def some_long_record(choice, glances=6, wrong=0.0):
    """A record of long texts with few letters, wide windows, many paces and times of all sizes."""
    width = choice.randint(4, 8)
    dead = tuple(place for place in range(width) if choice.random() < 0.15)
    least = choice.randint(1, 40)
    most = choice.randint(least, min(40, least + 9))
    paces = tuple(sorted(choice.sample(range(-9, 10), choice.randint(1, 4))))
    groups = choice.choice(((), ("ab", "cd"), ("zyx", "ca"), (LETTERS[1:],)))
    record = Record(width, dead=dead, least=least, most=most, paces=paces, groups=groups)
    text = "".join(choice.choices("aabc-", k=choice.randint(least, most)))
    pace = choice.choice(paces)
    for number in range(choice.randint(0, glances)):
        time = choice.choice((choice.randint(0, 60), choice.randint(0, GREATEST), GREATEST - choice.randint(0, 9)))
        record = record.seen(time, some_reading(choice, record, text, pace, time, wrong))
    return record
