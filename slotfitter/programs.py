"""Programs: which ones are refused, and their blocks and places."""

from slotfitter.errors import NoBlock, NoName, NoPlace, NoWay, SignTwice, TooMany
from slotfitter.rows import is_name, is_tell

MOST_BLOCKS = 60
MOST_ROWS = 40
MOST_WAYS = 9
MOST_READS = 2


def checked(program):
    """The program again, as a new one, or the first refusal that is due."""
    if not program:
        raise NoBlock("a program has at least one block")
    if len(program) > MOST_BLOCKS:
        raise TooMany("a program has at most 60 blocks")
    signs = {}
    for rows, ways in program:
        check_sizes(rows, ways)
        for row in rows:
            check_row(row, signs)
        check_ways(ways, len(program))
    return [(list(rows), list(ways)) for rows, ways in program]


def check_sizes(rows, ways):
    """Refuse a block with too many rows or ways."""
    if len(rows) > MOST_ROWS:
        raise TooMany("a block has at most 40 rows")
    if len(ways) > MOST_WAYS:
        raise TooMany("a block has at most 9 ways")


def check_row(row, signs):
    """Refuse a row that is wrong behind rows with these signs; note its own sign there."""
    for name in names_in(row):
        if not is_name(name):
            raise NoName("a slot, sign or read is 1 to 12 small letters a to z")
    if is_tell(row):
        return
    sign, reads = row[2], row[3]
    if len(reads) > MOST_READS:
        raise TooMany("a row has at most two reads")
    if sign in signs:
        raise SignTwice("a row ahead has the same sign")
    signs[sign] = True


def names_in(row):
    """The list of what should be names in a row."""
    if is_tell(row):
        return [row[1]]
    return [row[1], row[2], *row[3]]


def check_ways(ways, many):
    """Refuse a way that leads to none of so many blocks."""
    for way in ways:
        # A way that is no number at all cannot be compared with one.
        if not isinstance(way, int) or not 0 <= way < many:
            raise NoWay("a way is the number of a block")


def is_place(program, place):
    """True if a row of the program stands at that place, else False."""
    if not isinstance(place, tuple) or len(place) != 2:
        return False
    block, at = place
    if not isinstance(block, int) or not isinstance(at, int):
        return False
    # Python would count a number below nought from the end.
    return 0 <= block < len(program) and 0 <= at < len(program[block][0])


def check_places(program, places):
    """Refuse a list of places with one at which no row stands."""
    for place in places:
        if not is_place(program, place):
            raise NoPlace("no row stands at one of the places")


def without(program, places):
    """The program without the rows at a list of places."""
    check_places(program, places)
    gone = {place: True for place in places}
    rest = []
    for number, (rows, ways) in enumerate(program):
        left = [row for at, row in enumerate(rows) if (number, at) not in gone]
        rest.append((left, list(ways)))
    return rest


def reached(program):
    """The list of the numbers of the blocks that some road leads to, rising."""
    found = {0: True}
    waiting = [0]
    while waiting:
        _, ways = program[waiting.pop()]
        for way in ways:
            if way not in found:
                found[way] = True
                waiting.append(way)
    return sorted(found)
