"""The rows of a wheel: what each of them does, and the row that undoes it."""


def opposite_of(row):
    kind = row[0]
    if kind == "add":
        return ("take", row[1], row[2])
    if kind == "take":
        return ("add", row[1], row[2])
    if kind in ("more", "nought", "less"):
        # Each of these three ends with its number, whatever stands ahead of it.
        last = len(row) - 1
        return row[:last] + (-row[last],)
    return row


def done_by(row, pace, held):
    return (pace + pace_growth(row, held), held_behind(row, held))


def pace_growth(row, held):
    kind = row[0]
    if kind == "nought" and held[row[1]] == 0:
        return row[2]
    if kind == "less" and held[row[1]] < held[row[2]]:
        return row[3]
    return 0


def held_behind(row, held):
    # All is read from held and written to the copy, so that what was handed in
    # stays as it was and a swap needs no third drawer.
    behind = list(held)
    kind = row[0]
    if kind == "add":
        behind[row[1]] = held[row[1]] + held[row[2]]
    elif kind == "take":
        behind[row[1]] = held[row[1]] - held[row[2]]
    elif kind == "more":
        behind[row[1]] = held[row[1]] + row[2]
    elif kind == "swap":
        behind[row[1]] = held[row[2]]
        behind[row[2]] = held[row[1]]
    elif kind == "turn":
        behind[row[1]] = -held[row[1]]
    return behind


def drawers_named(row):
    # The last number of a more, a nought and a less is no drawer.
    kind = row[0]
    if kind == "rest":
        return ()
    if kind in ("add", "take", "swap", "less"):
        return (row[1], row[2])
    return (row[1],)
