"""Which slots are needed ahead of rows and of blocks."""

from slotfitter.rows import is_tell


def is_of_use(row, behind):
    """True if the row tells, or makes a slot of the dict of those that are needed behind it, else False."""
    return is_tell(row) or row[1] in behind


def step_ahead(slots, row):
    """Turn the dict of what is needed behind a row into that of what is needed ahead of it."""
    if is_tell(row):
        slots[row[1]] = True
    elif row[1] in slots:
        # The slot goes first: it comes back where the row reads it.
        del slots[row[1]]
        for read in row[3]:
            slots[read] = True


def ahead(rows, behind):
    """The list of the slots that are needed ahead of rows, in the order of their texts."""
    slots = {slot: True for slot in behind}
    for row in reversed(rows):
        step_ahead(slots, row)
    return sorted(slots)


def needed(program):
    """For each block the list of the slots that are needed ahead of its rows."""
    leading = blocks_leading(program)
    makes = [slots_made(rows) for rows, _ in program]
    found = [{} for _ in program]
    behind = [{} for _ in program]
    waiting = []
    for number, (rows, _) in enumerate(program):
        note(found, waiting, number, ahead(rows, []))
    # What is needed ahead of rows for several slots is what is needed for each of them alone, put together.
    # So each slot is taken back through each block once, on its own, however the loops lie.
    while waiting:
        block, slot = waiting.pop()
        for earlier in leading[block]:
            if slot not in behind[earlier]:
                behind[earlier][slot] = True
                # Most slots are not made in a block, and its rows need not be gone through for them.
                slots = ahead(program[earlier][0], [slot]) if slot in makes[earlier] else [slot]
                note(found, waiting, earlier, slots)
    return [sorted(slots) for slots in found]


def note(found, waiting, block, slots):
    """Note slots as needed ahead of a block; those that are new wait to be taken back from there."""
    for slot in slots:
        if slot not in found[block]:
            found[block][slot] = True
            waiting.append((block, slot))


def blocks_leading(program):
    """For each block the list of the blocks with a way to it, each once."""
    leading = [[] for _ in program]
    for number, (_, ways) in enumerate(program):
        for way in sorted(set(ways)):
            leading[way].append(number)
    return leading


def slots_made(rows):
    """A dict of the slots that rows make."""
    return {row[1]: True for row in rows if not is_tell(row)}
