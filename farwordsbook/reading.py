"""Reads the one list of whole numbers that is handed in as calls, one behind another."""

# A call's number is its place here: its name, how many whole numbers it has, and whether a row is behind them.
CALLS = (
    ("begin", 2, False),
    ("put", 1, False),
    ("take", 1, False),
    ("rest", 0, False),
    ("move", 1, False),
    ("swap", 2, False),
    ("close", 0, False),
    ("fill", 0, False),
    ("goal", 1, False),
    ("note", 1, True),
    ("strike", 1, False),
    ("back", 0, False),
    ("again", 0, False),
    ("words", 0, False),
    ("twos", 0, False),
    ("sums", 0, False),
    ("tilt", 1, False),
    ("strength", 0, False),
    ("uneven", 0, False),
    ("least", 0, False),
    ("off", 1, False),
    ("mend", 1, False),
    ("more", 0, False),
    ("bound", 0, False),
    ("proves", 0, True),
    ("best_proof", 0, False),
    ("spread", 0, False),
    ("held", 0, False),
    ("evenly", 1, False),
    ("in_the_way", 1, False),
    ("radius", 0, False),
    ("reach", 0, False),
    ("so", 1, True),
    ("all_of", 1, False),
    ("report", 0, False),
    ("line", 1, False),
    ("state", 0, False),
)


def read_calls(calls):
    """Each call in order: its name, and the list of what is told with it (a row is a list within it, its last)."""
    found = []
    place = 0
    while place < len(calls):
        shape = CALLS[calls[place]]
        behind = place + 1 + shape[1]
        told = calls[place + 1:behind]
        if shape[2]:
            row = behind + 1
            behind = row + calls[row - 1]
            told.append(calls[row:behind])
        found.append((shape[0], told))
        place = behind
    return found
