"""How calls stand in the one list that is handed in."""

BEGIN = 0
GROUP = 1
NOGROUP = 2
RULE = 3
NORULE = 4
MOVE = 5
RUNS = 6
MEMBER = 7
SIZE = 8
BLOCKS = 9
COVER = 10
SAME = 11
INSIDE = 12
ASK = 13
ROWS = 14
ROW = 15
LOOK = 16
RULES = 17

# How many whole numbers each call has, by its number.
WIDTHS = (1, 1, 1, 7, 1, 2, 1, 2, 1, 1, 3, 2, 2, 4, 0, 1, 4, 0)


# Each call comes out as its number, its whole numbers and its list of parts.
def read_calls(calls):
    found = []
    place = 0
    while place < len(calls):
        number = calls[place]
        end = place + 1 + WIDTHS[number]
        numbers = calls[place + 1:end]
        parts = []
        if number == GROUP:
            start = end + 1
            end = start + calls[end]
            parts = calls[start:end]
        found.append((number, numbers, parts))
        place = end
    return found
