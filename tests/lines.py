"""Writes lines of calls as the interface asks for them, and takes their answers apart."""

from cantcolour.space import answers

NUMBERS = {
    "begin": 0, "direction": 1, "remove": 2, "directionis": 3, "right": 4,
    "sets": 5, "set": 6, "of": 7, "fits": 8, "way": 9, "ways": 10,
    "shows": 11, "seen": 12, "needed": 13, "state": 14,
}
WITH_ROW = ("direction", "fits", "shows")

LARGEST = 4294967295


def write(calls):
    """calls: tuples of a call's name and its arguments; a row is one argument, a list."""
    line = []
    for name, *arguments in calls:
        line.append(NUMBERS[name])
        if name in WITH_ROW:
            line.append(len(arguments[0]))
            line.extend(arguments[0])
        else:
            line.extend(arguments)
    return line


def take_apart(given):
    parts = []
    at = 0
    while at < len(given):
        end = at + 1 + given[at]
        if end > len(given):
            raise AssertionError("a count reaches beyond the end")
        parts.append(given[at + 1:end])
        at = end
    return parts


def ask(*calls):
    """One list for each call: what it answered."""
    parts = take_apart(answers(write(calls)))
    if len(parts) != len(calls):
        raise AssertionError(f"{len(calls)} calls, {len(parts)} answers")
    return parts


def space_of(dimensions, rows):
    """The calls that begin a space and put directions into it."""
    return [("begin", dimensions)] + [("direction", list(row)) for row in rows]


def ask_in(dimensions, rows, *calls):
    """What calls answer in a space that has just these directions."""
    before = space_of(dimensions, rows)
    parts = ask(*before, *calls)
    taken = [[0]] + [[i] for i in range(len(rows))]
    if parts[:len(before)] != taken:
        raise AssertionError(f"not taken: {parts[:len(before)]}")
    return parts[len(before):]


def look(directions, sets):
    """Calls that show all of a space with so many directions and complete sets, and that it has no more."""
    calls = [("directionis", i) for i in range(directions + 1)]
    calls += [("right", i, j) for i in range(directions) for j in range(directions)]
    calls += [("sets",)]
    calls += [("set", k) for k in range(sets + 1)]
    calls += [("of", i) for i in range(directions + 1)]
    return calls


def look_all(directions, sets):
    """As look, without each two of the directions, but with all calls that change nothing."""
    marked = [[], [0], [directions - 1]] if directions else [[]]
    calls = [call for call in look(directions, sets) if call[0] != "right"]
    calls += [("fits", row) for row in marked]
    calls += [("shows", []), ("shows", list(range(sets)))]
    return calls + [("way",), ("ways",), ("seen",), ("needed",), ("state",)]
