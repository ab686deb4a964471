"""Runs: the blocks that a road leads through, and what is told there."""

from slotfitter.rows import held, is_tell, made


def told(program, start, works, road):
    """The list of the numbers that a run tells, in order."""
    # One dict for the whole run: a new one for each row would be slow where there are many slots.
    slots = dict(start)
    numbers = []
    for block in blocks_on(program, road):
        rows, _ = program[block]
        for row in rows:
            if is_tell(row):
                numbers.append(held(slots, row[1]))
            else:
                slots[row[1]] = made(slots, works, row)
    return numbers


def blocks_on(program, road):
    """The list of the blocks that a run comes to, in order, block 0 first."""
    block = 0
    blocks = [block]
    for number in road:
        _, ways = program[block]
        if not ways:
            break
        block = ways[number % len(ways)]
        blocks.append(block)
    return blocks
