"""Roads that show something: how to come to a block, that a slot is needed, and that a row stands."""

from slotfitter.cuts import kept
from slotfitter.programs import check_places
from slotfitter.rows import is_tell


def road_to(program, block):
    """A shortest road by which a run comes to a block and ends there, or None."""
    def look(number):
        return number == block, list(enumerate(program[number][1]))

    return shortest_road(0, look)


def flow(program, block, slot):
    """A shortest road for a run that begins at a block and tells what a slot holds there, or None.

    Just that slot holds a number above nought, and none is ever below it. So a number above nought comes from one
    slot alone, and it is enough to search slot by slot.
    """
    # Python would count a number below nought from the end.
    if not 0 <= block < len(program):
        return None
    named = [slots_named(rows) for rows, _ in program]

    def look(node):
        number, full = node
        rows, ways = program[number]
        # Most slots are not named in a block, and its rows need not be gone through for them.
        is_told, slots = trace(rows, full) if full in named[number] else (False, [full])
        return is_told, [(taken, (way, behind)) for taken, way in enumerate(ways) for behind in slots]

    return shortest_road((block, slot), look)


def slots_named(rows):
    """A dict of the slots that rows make, read or tell."""
    slots = {row[1]: True for row in rows}
    for row in rows:
        if not is_tell(row):
            for read in row[3]:
                slots[read] = True
    return slots


def trace(rows, slot):
    """What rows do with one slot that holds a number above nought ahead of them.

    It gives True and no slots if they tell a number above nought, else False and the list of the slots that hold one
    behind them.
    """
    full = {slot: True}
    for row in rows:
        if is_tell(row):
            if row[1] in full:
                return True, []
        elif any(read in full for read in row[3]):
            full[row[1]] = True
        elif row[1] in full:
            del full[row[1]]
    return False, list(full)


def shortest_road(start, look):
    """The numbers of a shortest road from a start to an end, or None where no road leads to one.

    For each node `look` gives whether it is an end, and a list of pairs: a number, and the node that it leads to.
    """
    came = {start: None}
    nodes = [start]
    while nodes:
        later = []
        for node in nodes:
            is_end, steps = look(node)
            if is_end:
                return numbers_to(came, node)
            for number, other in steps:
                if other not in came:
                    came[other] = (node, number)
                    later.append(other)
        nodes = later
    return None


def numbers_to(came, node):
    """The list of the numbers that led to a node, by a dict of what each node came from."""
    numbers = []
    while came[node] is not None:
        node, number = came[node]
        numbers.append(number)
    numbers.reverse()
    return numbers


def parting(program, places):
    """The first of the places whose row stands, and a road on which the program needs it; or None."""
    check_places(program, places)
    stands = {place: True for place in kept(program)}
    for place in places:
        if place in stands:
            return place, road_past(program, place)
    return None


def road_past(program, place):
    """A road to a row that stands, and on to where what it makes is told.

    A tell row needs nothing behind it: without it fewer numbers are told. As for a make row, all numbers above nought
    come from it where its sign alone has works. So without it just noughts are told, whatever other rows are left
    out, and with it a number above nought.
    """
    block, at = place
    rows, ways = program[block]
    road = road_to(program, block)
    if is_tell(rows[at]):
        return road
    # What is left of the block becomes a block of its own, as a flow begins ahead of a block.
    rest = (rows[at + 1:], ways)
    return road + flow([*program, rest], len(program), rows[at][1])
