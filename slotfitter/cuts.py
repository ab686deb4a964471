"""The rows that stand, and the program of just these rows."""

from slotfitter.needs import is_of_use, needed, step_ahead
from slotfitter.programs import reached


def kept(program):
    """The list of the places of the rows that stand, rising."""
    needs = needed(program)
    places = []
    for block in reached(program):
        rows, ways = program[block]
        behind = {slot: True for way in ways for slot in needs[way]}
        places.extend([(block, at) for at in standing(rows, behind)])
    return places


def standing(rows, behind):
    """The numbers of the rows that are of use, rising.

    The dict of the slots that are needed behind the rows becomes that of those needed ahead of them.
    """
    found = []
    for at in reversed(range(len(rows))):
        if is_of_use(rows[at], behind):
            found.append(at)
        step_ahead(behind, rows[at])
    found.reverse()
    return found


def cut(program):
    """The program with the same blocks and ways, and just the rows that stand."""
    stands = {place: True for place in kept(program)}
    blocks = []
    for number, (rows, ways) in enumerate(program):
        left = [row for at, row in enumerate(rows) if (number, at) in stands]
        blocks.append((left, list(ways)))
    return blocks
