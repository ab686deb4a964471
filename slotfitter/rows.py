"""Names, and what a row does to the slots."""

LETTERS = "abcdefghijklmnopqrstuvwxyz"
LONGEST_NAME = 12
PLAIN_WORK = (1, 1, 0)


def is_name(thing):
    """True if the thing is a name, else False."""
    if not isinstance(thing, str):
        return False
    if not 1 <= len(thing) <= LONGEST_NAME:
        return False
    return all(letter in LETTERS for letter in thing)


def is_tell(row):
    """True for a tell row, False for a make row."""
    return row[0] == "tell"


def held(slots, slot):
    """The number that a slot holds."""
    return slots.get(slot, 0)


def made(slots, works, row):
    """The number that a make row puts into its slot."""
    p, q, r = works.get(row[2], PLAIN_WORK)
    reads = row[3]
    if not reads:
        return r
    first = p * held(slots, reads[0])
    if len(reads) == 1:
        return first + r
    return first + q * held(slots, reads[1]) + r


def done(slots, works, row):
    """The dict of slots behind a row."""
    behind = dict(slots)
    if not is_tell(row):
        behind[row[1]] = made(slots, works, row)
    return behind
