"""The mirror of a wheel and of a state, on which forth is back and back is forth."""

from bothways.rows import opposite_of
from bothways.steps import gone_round


def mirror_wheel(wheel):
    return [opposite_of(row) for row in reversed(wheel)]


def mirror_state(wheel, state):
    # A step forth on the mirror does first what a step back here does first:
    # it does the opposite of the row to which the place goes back.
    come_to = gone_round(wheel, state[0], -state[1])
    return (len(wheel) - 1 - come_to, state[1], list(state[2]))
