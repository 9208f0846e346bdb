"""Records: what is known of a sign, and the glances at it."""

from glimpserounds.basics import UNREAD, agrees, check_dead, check_groups, check_length, check_paces, check_time
from glimpserounds.basics import check_width, check_window, is_row
from glimpserounds.errors import InvalidWindow, NotARecord, OtherKind, TooMany, WrongValue
from glimpserounds.limits import MOST_GLANCES
from glimpserounds.signs import check_sign


class Record:
    """The bounds of a sign, and glances at it; it never changes, a further glance makes another record."""

    def __init__(self, width, *, dead=(), least=1, most=20, paces=(1,), groups=()):
        check_width(width)
        check_dead(dead, width)
        check_length(least, 1)
        check_length(most, least)
        check_paces(paces)
        check_groups(groups)
        self.kept = (width, dead, least, most, paces, groups, ())

    @property
    def width(self):
        return self.kept[0]

    @property
    def dead(self):
        return self.kept[1]

    @property
    def least(self):
        return self.kept[2]

    @property
    def most(self):
        return self.kept[3]

    @most.setter
    def most(self, value):
        # Only because an error assigns its own attribute of this name; a record never changes.
        raise AttributeError("the most length of a record cannot be assigned")

    @property
    def paces(self):
        return self.kept[4]

    @property
    def groups(self):
        return self.kept[5]

    @property
    def glances(self):
        return self.kept[6]

    @property
    def told(self):
        return self.kept

    def seen(self, time, window):
        check_time(time)
        check_window(window, self.width, self.groups)
        if not unread_where_dead(window, self.dead):
            raise InvalidWindow(window)
        if len(self.glances) >= MOST_GLANCES:
            raise TooMany(MOST_GLANCES)
        return with_glances(self, self.glances + ((time, window),))

    @staticmethod
    def of(told):
        record = record_told(told)
        if record is None:
            raise NotARecord(told)
        return record

    def fits(self, sign):
        check_sign(sign)
        if sign.pace not in self.paces or not self.least <= len(sign) <= self.most:
            return False
        width = self.width
        groups = self.groups
        return all([agrees(sign.window(time, width), reading, groups) for time, reading in self.glances])

    def joined(self, other):
        check_record(other)
        least = max(self.least, other.least)
        most = min(self.most, other.most)
        paces = tuple([pace for pace in self.paces if pace in other.paces])
        if not same_kind(self, other) or least > most or len(paces) == 0:
            raise OtherKind(other)
        glances = self.glances + other.glances
        if len(glances) > MOST_GLANCES:
            raise TooMany(MOST_GLANCES)
        bounds = Record(self.width, dead=self.dead, least=least, most=most, paces=paces, groups=self.groups)
        return with_glances(bounds, glances)

    def __eq__(self, other):
        return isinstance(other, Record) and self.kept == other.kept

    def __len__(self):
        return len(self.kept[6])

    def __bool__(self):
        # Without this a record without glances would be false, as its len is 0.
        return True

    def __repr__(self):
        return f"Record of {self.kept[0]} places, {len(self.kept[6])} glances"


def check_record(record):
    if not isinstance(record, Record):
        raise NotARecord(record)


def lets(record, length, pace):
    """Whether the bounds of the record let a sign with this length and pace, whatever was seen."""
    return record.least <= length <= record.most and pace in record.paces


def let_pairs(record):
    """The pairs (length, pace) that the bounds of the record let, ascending, whatever was seen."""
    return [(length, pace) for length in range(record.least, record.most + 1) for pace in record.paces]


def shared_pairs(one, other):
    """The pairs (length, pace) that the bounds of both records let, ascending."""
    return [(length, pace) for length, pace in let_pairs(one) if lets(other, length, pace)]


def unread_where_dead(window, dead):
    return all([window[place] == UNREAD for place in dead])


def same_kind(one, other):
    return one.width == other.width and one.dead == other.dead and one.groups == other.groups


def with_glances(record, glances):
    """A new record with the bounds of this one and exactly these glances, which are right for it."""
    width, dead, least, most, paces, groups = record.told[:6]
    made = Record(width, dead=dead, least=least, most=most, paces=paces, groups=groups)
    made.kept = (width, dead, least, most, paces, groups, glances)
    return made


def is_row_of_pairs(value):
    return isinstance(value, tuple) and all([is_row(item, 2) for item in value])


def record_told(told):
    """The record with this told; None if it is the told of no record."""
    if not is_row(told, 7) or not is_row_of_pairs(told[6]):
        return None
    try:
        return retold(told)
    except (WrongValue, TooMany):
        return None


def retold(told):
    """The record with this told, built step by step, so that each part is checked as when it was first passed."""
    width, dead, least, most, paces, groups, glances = told
    record = Record(width, dead=dead, least=least, most=most, paces=paces, groups=groups)
    for time, window in glances:
        record = record.seen(time, window)
    return record
