"""Programs and checks that several tests use."""

import copy
import itertools


def make(slot, sign, *reads):
    return ("make", slot, sign, reads)


def tell(slot):
    return ("tell", slot)


def loops():
    """Four blocks: a start, a loop that feeds itself, an end, and one that no way leads to."""
    return [
        ([make("a", "f"), make("b", "g", "a")], [1, 2]),
        ([make("b", "h", "b", "a"), make("c", "k", "c"), tell("b")], [1, 0, 2]),
        ([make("d", "m", "b", "b"), tell("d"), tell("e")], []),
        ([tell("a")], [2, 3]),
    ]


def word(number):
    """A name of three letters, another one for each number below 17576."""
    letters = "abcdefghijklmnopqrstuvwxyz"
    return letters[number // 676] + letters[number // 26 % 26] + letters[number % 26]


def signed(many, first=0):
    """So many make rows, each with a sign of its own."""
    return [make("a", word(number)) for number in range(first, first + many)]


def fed():
    """One block, which leads to itself: a row that only feeds itself, and three that are told round the loop."""
    return [([tell("c"), make("c", "f", "b"), make("b", "g", "a"), make("a", "h"), make("n", "k", "n")], [0])]


def places_of(program):
    """The list of the places of all rows, rising."""
    return [(block, at) for block, (rows, _) in enumerate(program) for at in range(len(rows))]


def any_program(chance, blocks=4, rows=4, ways=3, slots="abc", tells=0.3):
    """Some program of at most so many blocks, with at most so many rows and ways each."""
    many = chance.randint(1, blocks)
    signs = iter(range(blocks * rows))
    program = []
    for _ in range(many):
        made = []
        for _ in range(chance.randint(0, rows)):
            if chance.random() < tells:
                made.append(tell(chance.choice(slots)))
            else:
                reads = [chance.choice(slots) for _ in range(chance.randint(0, 2))]
                made.append(make(chance.choice(slots), word(next(signs)), *reads))
        program.append((made, [chance.randrange(many) for _ in range(chance.randint(0, ways))]))
    return program


def any_works(chance, program, share=1.0):
    """Works for such a share of a program's signs, or so."""
    signs = [row[2] for rows, _ in program for row in rows if row[0] == "make"]
    return {sign: tuple(chance.randint(-99, 99) for _ in range(3)) for sign in signs if chance.random() < share}


def all_roads(program, long):
    """Every road of at most so many numbers, the shorter ones first, as plain numbers of ways."""
    most = max(len(ways) for _, ways in program)
    for length in range(long + 1):
        for road in itertools.product(range(most), repeat=length):
            yield list(road)


def chain():
    """A program of the utmost size: 2399 slots, each made of the one before, and the last one told.

    The rows stand in the other order, so that a number comes on by one slot each time round the loop of 60 blocks.
    """
    rows = [tell(word(2399))]
    for number in range(2399, 0, -1):
        rows.append(make(word(number), word(number), word(number - 1)))
    return [(rows[40 * block:40 * block + 40], [(block + 1) % 60]) for block in range(60)]


def wide():
    """A program of the utmost size with 3600 slots, of which the 2400 that are read are needed in every block."""
    program = []
    for block in range(60):
        made = []
        for number in range(20 * block, 20 * block + 20):
            reads = [word(5000 + 2 * number), word(5001 + 2 * number)]
            made = made + [make(word(number), word(number), *reads), tell(word(number))]
        program.append((made, [(block + way) % 60 for way in range(1, 10)]))
    return program


def spoil(answer):
    """Change every list and dict of an answer."""
    if isinstance(answer, dict):
        for key in answer:
            answer[key] = "spoilt"
        answer["spoilt"] = 99
    elif isinstance(answer, list):
        for item in answer:
            spoil(item)
        answer.append("spoilt")
        answer.reverse()
    elif isinstance(answer, tuple):
        for item in answer:
            spoil(item)


def check_new(test, call, *given):
    """The call changes nothing that it is given, and what it gives is new.

    It gives the answer. What is spoilt here is a copy of what is given.
    """
    given = copy.deepcopy(given)
    before = copy.deepcopy(given)
    answer = call(*given)
    test.assertEqual(given, before)
    kept = copy.deepcopy(answer)
    spoil(answer)
    test.assertEqual(given, before, "a change of the answer changed what was handed in")
    test.assertEqual(call(*given), kept, "a change of the answer changed a later one")
    later = call(*given)
    for item in given:
        spoil(item)
    test.assertEqual(later, kept, "a change of what was handed in changed the answer")
    return kept
