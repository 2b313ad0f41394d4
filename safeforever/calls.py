"""The calls of a line, as they lie one behind another in one list."""

START = 0
NEXT = 1
FIRST = 2
BAD = 3
REACH = 4
WAY = 5
DOOM = 6
PROOF = 7
LEAST = 8
STEPS = 9
CLAIM = 10
KEEP = 11
STEP = 12

# Of each call, by its number: how many whole numbers it has, and how many rows.
LAYOUTS = ((2, 0), (1, 1), (0, 1), (0, 1), (0, 0), (0, 0), (0, 0),
           (1, 0), (0, 0), (0, 0), (0, 1), (0, 1), (2, 0), (1, 0))


# Each call as its number, its whole numbers and its row (empty if it has none).
def read_calls(calls):
    told = []
    place = 0
    while place < len(calls):
        number = calls[place]
        layout = LAYOUTS[number]
        place += 1
        numbers = calls[place:place + layout[0]]
        place += layout[0]
        row = []
        if layout[1] == 1:
            row = calls[place + 1:place + 1 + calls[place]]
            place += 1 + len(row)
        told.append((number, numbers, row))
    return told
