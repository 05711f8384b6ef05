"""How the calls of a line stand in one list of whole numbers."""

# direction, fits and shows: these have a row alone, and its size stands ahead of it.
ROW_CALLS = (1, 8, 11)

# How many whole numbers each call has, in the order of the calls' numbers.
SIZES = (1, 0, 1, 1, 2, 0, 1, 1, 0, 0, 0, 0, 0, 0, 0)


# No call has both whole numbers and a row, so one list of arguments serves for either.
def split_calls(calls):
    made = []
    at = 0
    while at < len(calls):
        number = calls[at]
        start = at + 1
        size = SIZES[number]
        if number in ROW_CALLS:
            size = calls[start]
            start += 1
        at = start + size
        made.append((number, calls[start:at]))
    return made
