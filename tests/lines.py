"""Writes lines of calls by their names, and reads what is answered call by call."""

from farwordsbook.bits import answers

# The interface's numbers, written here once more so that the tests don't lean on the program's own list.
NUMBERS = {
    "begin": 0, "put": 1, "take": 2, "rest": 3, "move": 4, "swap": 5, "close": 6, "fill": 7, "goal": 8, "note": 9,
    "strike": 10, "back": 11, "again": 12, "words": 13, "twos": 14, "sums": 15, "tilt": 16, "strength": 17,
    "uneven": 18, "least": 19, "off": 20, "mend": 21, "more": 22, "bound": 23, "proves": 24, "best_proof": 25,
    "spread": 26, "held": 27, "evenly": 28, "in_the_way": 29, "radius": 30, "reach": 31, "so": 32, "all_of": 33,
    "report": 34, "line": 35, "state": 36,
}

TOP = 2147483647

# Every call that only looks, as told and as refused, for three bits and some words.
LOOKS = (
    ("words",), ("twos",), ("sums",), ("tilt", 3), ("tilt", 8), ("strength",), ("uneven",), ("least",), ("off", 2),
    ("off", 8), ("mend", 2), ("mend", 8), ("more",), ("bound",), ("proves", [1, 1, 1, 1]), ("proves", [1, 0, 0, 0]),
    ("proves", []), ("best_proof",), ("spread",), ("held",), ("evenly", 1), ("evenly", 0), ("evenly", 4),
    ("in_the_way", 1), ("in_the_way", 4), ("radius",), ("reach",), ("so", 0, [1]), ("so", 4, []), ("so", 1, []),
    ("all_of", 5), ("all_of", 4), ("report",), ("line", 0), ("line", 8), ("state",),
)


def flat(calls):
    """Calls such as ("put", 3) or ("note", 0, [2]) as one list of whole numbers."""
    told = []
    for call in calls:
        told.append(NUMBERS[call[0]])
        for value in call[1:]:
            if isinstance(value, list):
                told.append(len(value))
                told.extend(value)
            else:
                told.append(value)
    return told


def parted(told):
    """What is answered, a list a call."""
    found = []
    place = 0
    while place < len(told):
        behind = place + 1 + told[place]
        assert behind <= len(told), "the answers end within one"
        found.append(told[place + 1:behind])
        place = behind
    return found


def ask(*calls):
    """What each of the calls answers, a list a call."""
    found = parted(answers(flat(calls)))
    assert len(found) == len(calls), "a call, an answer"
    return found


def last(*calls):
    """What the last of the calls answers."""
    return ask(*calls)[-1]


def puts(*words):
    """A call to put for each of the words."""
    return [("put", word) for word in words]


def look(bits, words, *call, goal=1):
    """What a call answers where these words are there."""
    if len(words) == 2 ** bits:
        return last(("begin", bits, goal), ("rest",), call)
    return last(("begin", bits, goal), *puts(*words), call)
