"""Programs and checks that several tests use."""

import copy


def make(slot, sign, *reads):
    return ("make", slot, sign, reads)


def tell(slot):
    return ("tell", slot)


def loops():
    """Four blocks: a start, a loop that feeds itself, an end, and one that no way leads to."""
    return [
        ([make("a", "f"), make("b", "g", "a")], [1, 2]),
        ([make("b", "h", "b", "a"), make("c", "k", "c"), tell("b")], [1, 0, 2]),
        ([make("d", "m", "b", "b"), tell("d"), tell("e")], []),
        ([tell("a")], [2, 3]),
    ]


def word(number):
    """A name of three letters, another one for each number below 17576."""
    letters = "abcdefghijklmnopqrstuvwxyz"
    return letters[number // 676] + letters[number // 26 % 26] + letters[number % 26]


def signed(many, first=0):
    """So many make rows, each with a sign of its own."""
    return [make("a", word(number)) for number in range(first, first + many)]


def spoil(answer):
    """Change every list and dict of an answer."""
    if isinstance(answer, dict):
        for key in answer:
            answer[key] = "spoilt"
        answer["spoilt"] = 99
    elif isinstance(answer, list):
        for item in answer:
            spoil(item)
        answer.append("spoilt")
        answer.reverse()
    elif isinstance(answer, tuple):
        for item in answer:
            spoil(item)


def check_new(test, call, *given):
    """The call changes nothing that it is given, and what it gives is new.

    It gives the answer. What is spoilt here is a copy of what is given.
    """
    given = copy.deepcopy(given)
    before = copy.deepcopy(given)
    answer = call(*given)
    test.assertEqual(given, before)
    kept = copy.deepcopy(answer)
    spoil(answer)
    test.assertEqual(given, before, "a change of the answer changed what was handed in")
    test.assertEqual(call(*given), kept, "a change of the answer changed a later one")
    later = call(*given)
    for item in given:
        spoil(item)
    test.assertEqual(later, kept, "a change of what was handed in changed the answer")
    return kept
