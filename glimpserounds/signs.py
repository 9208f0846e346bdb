"""Signs: texts that run round and round behind a window."""

from glimpserounds.basics import LETTERS, check_pace, check_time, check_width, numbers_at
from glimpserounds.errors import InvalidText, NotASign
from glimpserounds.limits import MOST_LENGTH


def is_text(value):
    if not isinstance(value, str) or not 1 <= len(value) <= MOST_LENGTH:
        return False
    return all([letter in LETTERS for letter in value])


class Sign:
    """A text, and how many places it goes to the left at each step of time."""

    def __init__(self, text, pace=1):
        if not is_text(text):
            raise InvalidText(text)
        check_pace(pace)
        self.kept_text = text
        self.kept_pace = pace

    @property
    def text(self):
        return self.kept_text

    @property
    def pace(self):
        return self.kept_pace

    def window(self, time, width):
        check_time(time)
        check_width(width)
        numbers = numbers_at(time, width, len(self.kept_text), self.kept_pace)
        return "".join([self.kept_text[number] for number in numbers])

    def __eq__(self, other):
        return isinstance(other, Sign) and self.kept_text == other.kept_text and self.kept_pace == other.kept_pace

    def __len__(self):
        return len(self.kept_text)

    def __str__(self):
        return f"{self.kept_text} at {self.kept_pace}"

    def __repr__(self):
        return f"Sign({self.kept_text} at {self.kept_pace})"


def check_sign(sign):
    if not isinstance(sign, Sign):
        raise NotASign(sign)


def first_unlike(sign, other, width):
    """The least time at which the windows of both signs differ; None if they never do."""
    check_sign(sign)
    check_sign(other)
    check_width(width)
    # Each sign shows the same again after as many steps as its text is long,
    # so both together do after the product of the lengths.
    for time in range(len(sign) * len(other)):
        if sign.window(time, width) != other.window(time, width):
            return time
    return None
