"""Programs as texts."""

from slotfitter.errors import NoLine
from slotfitter.programs import checked
from slotfitter.rows import is_tell

FIGURES = "0123456789"
MOST_FIGURES = 2


def shown(program):
    """The text of a program."""
    lines = []
    for rows, ways in program:
        lines.append("block")
        lines.extend([row_line(row) for row in rows])
        lines.append(" ".join(["to"] + [str(way) for way in ways]))
    return "".join([line + "\n" for line in lines])


def row_line(row):
    """The line of a row, without its end."""
    if is_tell(row):
        return " ".join(row)
    _, slot, sign, reads = row
    return " ".join([slot, "=", sign, *reads])


def read(text):
    """The program that a text writes, or the refusal that is due."""
    blocks = []
    rows = []
    is_open = False
    for words in worded(text):
        if not is_open:
            if words != ["block"]:
                raise NoLine("a block begins with the line: block")
            rows = []
            is_open = True
        elif is_row(words):
            rows.append(row_of(words))
        elif words[0] == "to":
            blocks.append((rows, [way_of(word) for word in words[1:]]))
            is_open = False
        else:
            raise NoLine("neither a row nor a block's last line")
    if is_open:
        raise NoLine("the last block has no last line")
    return checked(blocks)


def worded(text):
    """The list of the lists of the words of each line."""
    lines = text.split("\n")
    if lines.pop():
        raise NoLine("the last line has no end")
    rest = [line.split(" ") for line in lines]
    for words in rest:
        if "" in words:
            raise NoLine("words are parted by one blank")
    return rest


def is_row(words):
    """True if the words of a line are those of a row, else False."""
    # A slot may be called tell or to, so the second word counts first.
    if len(words) > 2:
        return words[1] == "="
    return len(words) == 2 and words[0] == "tell"


def row_of(words):
    """The row that a line with such words writes."""
    if len(words) == 2:
        return ("tell", words[1])
    return ("make", words[0], words[2], tuple(words[3:]))


def way_of(word):
    """The way that a word writes."""
    if not is_way(word):
        raise NoLine("a way has one or two figures, no nought ahead but 0 itself")
    return int(word)


def is_way(word):
    """True if a word writes a way, else False."""
    if len(word) > MOST_FIGURES or (len(word) > 1 and word[0] == "0"):
        return False
    return all(figure in FIGURES for figure in word)
