"""Single steps of the machine, forth and back."""

from bothways.rows import done_by, opposite_of


def step_forth(wheel, state):
    place = state[0]
    done = done_by(wheel[place], state[1], state[2])
    # The row may have changed the pace, and the place goes on by the changed one.
    return (gone_round(wheel, place, done[0]), done[0], done[1])


def step_back(wheel, state):
    place = gone_round(wheel, state[0], -state[1])
    done = done_by(opposite_of(wheel[place]), state[1], state[2])
    return (place, done[0], done[1])


def gone_round(wheel, place, rows):
    # A remainder has the sign of the wheel's length, so going back needs no case of its own.
    return (place + rows) % len(wheel)
