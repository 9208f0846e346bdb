"""The claims of a book: their forms, the names in them, and whether they hold."""

from glimpserounds.basics import is_reading, is_time, is_view
from glimpserounds.beside import apart, implies
from glimpserounds.errors import InvalidClaim
from glimpserounds.letters import can, must
from glimpserounds.pairs import glimpses, some_fits
from glimpserounds.records import let_pairs

# How many parts a claim with each of the words has, the word counted.
PARTS = {"fits": 2, "can": 4, "must": 4, "implies": 3, "apart": 3}


def is_worded(value, parts):
    """Whether the value is a tuple of one of the words and as many parts as are told for the word."""
    if not isinstance(value, tuple) or len(value) == 0 or not isinstance(value[0], str):
        return False
    return parts.get(value[0]) == len(value)


def has_view(claim):
    return claim[0] in ("can", "must")


def is_claim(value):
    """Whether the value has one of the five forms, whatever stands in the places of the names."""
    if not is_worded(value, dict(PARTS)):
        return False
    return not has_view(value) or (is_time(value[2]) and is_view(value[3]))


def check_claim(claim):
    if not is_claim(claim):
        raise InvalidClaim(claim)


def names_in(claim):
    """What stands in the places of the names, from the left."""
    # The window of a claim can be written like a name and is none.
    return claim[1:2] if has_view(claim) else claim[1:]


def holds(claim, shelf):
    """Whether the claim is so for the records on the shelf, which has all its names."""
    word = claim[0]
    record = shelf[claim[1]]
    if word == "fits":
        return some_fits(let_pairs(record), glimpses(record))
    if word == "implies":
        return implies(record, shelf[claim[2]])
    if word == "apart":
        return apart(record, shelf[claim[2]])
    if not is_reading(claim[3], record.width, record.groups):
        return False
    if word == "can":
        return can(record, claim[2], claim[3])
    return must(record, claim[2], claim[3])


def first_failing(claims, shelf, name):
    """The index of the first claim that names this and is not so for the shelf; None if there is none."""
    for index, claim in enumerate(claims):
        if name in names_in(claim) and not holds(claim, shelf):
            return index
    return None


def first_naming(claims, name):
    """The index of the first claim that names this; None if there is none."""
    for index, claim in enumerate(claims):
        if name in names_in(claim):
            return index
    return None
