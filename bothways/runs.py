"""Runs of many steps, forth or back, and what a run refuses."""

from bothways.errors import NoDrawer, NoPlace, NoRow, OneDrawer
from bothways.rows import drawers_named
from bothways.steps import step_back, step_forth


def run_steps(wheel, state, steps):
    refuse_unfit(wheel, state)
    # A list of its own: a run of no steps must not give out the one that was handed in.
    reached = (state[0], state[1], list(state[2]))
    for done in range(abs(steps)):
        if steps > 0:
            reached = step_forth(wheel, reached)
        else:
            reached = step_back(wheel, reached)
    return reached


def refuse_unfit(wheel, state):
    # The order counts: where more than one refusal holds, the first one here is told.
    if len(wheel) == 0:
        raise NoRow("the wheel has no row")
    if not is_number_among(state[0], wheel):
        raise NoPlace("the place is not the number of a row")
    # Two walks and not one: a missing drawer in a late row is told ahead of a
    # drawer that an early row names twice.
    for row in wheel:
        if names_missing_drawer(row, state[2]):
            raise NoDrawer("a row names a drawer that is not there")
    for row in wheel:
        if names_one_drawer_twice(row):
            raise OneDrawer("an add or a take names one drawer twice")


def is_number_among(number, things):
    return 0 <= number < len(things)


def names_missing_drawer(row, held):
    for drawer in drawers_named(row):
        if not is_number_among(drawer, held):
            return True
    return False


def names_one_drawer_twice(row):
    return row[0] in ("add", "take") and row[1] == row[2]
