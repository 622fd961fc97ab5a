"""The interface, bothways/runs.py: what run_steps refuses, what it doesn't, and in which order."""

import unittest

from bothways.errors import MachineError, NoDrawer, NoPlace, NoRow, OneDrawer
from bothways.runs import run_steps
from machines import BIG, copy_of_state, copy_of_wheel

COUNTS = [0, 1, -1, 2, -2, 1000, -1000]
# More figures than Python would write out: an error's words must not stumble over it.
HUGE = 10**5000


class RefusalCase(unittest.TestCase):
    def check_refused(self, refusal, wheel, state, label=None):
        for steps in COUNTS:
            with self.subTest(refusal=refusal, case=label or (wheel, state), steps=steps):
                wheel_before, state_before = copy_of_wheel(wheel), copy_of_state(state)
                with self.assertRaises(MachineError) as caught:
                    run_steps(wheel, state, steps)
                self.assertIs(type(caught.exception), refusal)
                self.assertEqual(wheel, wheel_before)
                self.assertEqual(state, state_before)

    def check_taken(self, wheel, state):
        for steps in COUNTS:
            with self.subTest(wheel=wheel, state=state, steps=steps):
                there = run_steps(wheel, state, steps)
                self.assertEqual(run_steps(wheel, there, -steps), state)


class TestNoRow(RefusalCase):
    def test_an_empty_wheel(self):
        self.check_refused(NoRow, [], (0, 1, [5]))
        self.check_refused(NoRow, [], (0, 0, [5, 6]))
        self.check_refused(NoRow, [], (0, BIG, [0] * 10))

    def test_an_empty_wheel_with_a_place_of_any_kind(self):
        for place in (-1, 1, 7, -BIG, BIG):
            self.check_refused(NoRow, [], (place, 1, [5]))


class TestNoPlace(RefusalCase):
    def test_a_place_off_the_wheel(self):
        for rows in (1, 2, 3, 10):
            for place in (-1, -2, -rows, -rows - 1, rows, rows + 1, 2 * rows, 1000, -1000, BIG, -BIG):
                self.check_refused(NoPlace, [("rest",)] * rows, (place, 1, [5]))

    def test_a_place_too_long_to_write_out(self):
        self.check_refused(NoPlace, [("rest",)], (HUGE, 1, [5]), "far above")
        self.check_refused(NoPlace, [("rest",)], (-HUGE, 1, [5]), "far below")

    def test_the_number_of_drawers_does_not_matter(self):
        self.check_refused(NoPlace, [("rest",)] * 2, (2, 1, [5, 6, 7, 8]))
        self.check_taken([("rest",)] * 4, (3, 1, [5]))

    def test_the_pace_does_not_matter(self):
        for pace in (0, -1, 3, BIG, -BIG):
            self.check_refused(NoPlace, [("rest",)] * 3, (3, pace, [5]))
            self.check_taken([("rest",)] * 3, (2, pace, [5]))

    def test_both_ends_of_the_wheel_are_places(self):
        for rows in (1, 2, 3, 10):
            self.check_taken([("rest",)] * rows, (0, 1, [5]))
            self.check_taken([("rest",)] * rows, (rows - 1, 1, [5]))


def rows_naming(a, b):
    """Every kind of row that names two drawers."""
    return [("add", a, b), ("take", a, b), ("swap", a, b), ("less", a, b, 1)]


def rows_naming_one(a):
    """Every kind of row that names one drawer."""
    return [("more", a, 1), ("turn", a), ("nought", a, 1)]


class TestNoDrawer(RefusalCase):
    HELD = [5, 6, 7]
    OFF = [-1, -2, -3, -4, 3, 4, 6, 1000, -1000, BIG, -BIG]

    def check_row(self, row):
        """The row at the place, and rows that a run doesn't come to, ahead of the place and behind it."""
        self.check_refused(NoDrawer, [row], (0, 1, self.HELD))
        self.check_refused(NoDrawer, [row, ("rest",), ("rest",)], (1, 0, self.HELD))
        self.check_refused(NoDrawer, [("rest",), ("rest",), row], (1, 0, self.HELD))

    def test_rows_of_one_drawer(self):
        for drawer in self.OFF:
            for row in rows_naming_one(drawer):
                self.check_row(row)

    def test_the_first_of_two(self):
        for drawer in self.OFF:
            for row in rows_naming(drawer, 0) + rows_naming(drawer, 2):
                self.check_row(row)

    def test_the_second_of_two(self):
        for drawer in self.OFF:
            for row in rows_naming(0, drawer) + rows_naming(2, drawer):
                self.check_row(row)

    def test_both_of_two(self):
        for drawer in self.OFF:
            for row in rows_naming(drawer, drawer) + rows_naming(drawer, 3) + rows_naming(-1, drawer):
                self.check_row(row)

    def test_one_drawer_alone(self):
        for drawer in (-1, 1):
            for row in rows_naming_one(drawer) + rows_naming(drawer, 0) + rows_naming(0, drawer):
                self.check_refused(NoDrawer, [row], (0, 1, [5]))

    def test_a_drawer_too_long_to_write_out(self):
        for drawer in (HUGE, -HUGE):
            for row in rows_naming_one(drawer) + rows_naming(drawer, 0) + rows_naming(0, drawer):
                self.check_refused(NoDrawer, [row], (0, 1, self.HELD), row[0])

    def test_among_a_hundred_thousand_drawers(self):
        held = [0] * 100000
        for drawer in (-1, 100000):
            with self.assertRaises(NoDrawer):
                run_steps([("rest",), ("turn", drawer)], (0, 0, held), 0)
        self.assertTrue(run_steps([("rest",), ("turn", 99999)], (0, 0, held), 0) == (0, 0, held))

    def test_a_late_row_of_a_long_wheel(self):
        wheel = [("rest",)] * 3000 + [("turn", 3)] + [("rest",)] * 3000
        self.check_refused(NoDrawer, wheel, (0, 1, self.HELD), "long wheel")

    def test_the_first_and_the_last_drawer_are_there(self):
        for row in rows_naming_one(0) + rows_naming_one(2) + rows_naming(0, 2) + rows_naming(2, 0):
            self.check_taken([row], (0, 1, self.HELD))
        for row in rows_naming_one(0):
            self.check_taken([row], (0, 1, [5]))

    def test_a_number_of_rows_is_no_number_of_drawers(self):
        self.check_taken([("turn", 2)], (0, 1, self.HELD))
        self.check_refused(NoDrawer, [("turn", 3)] + [("rest",)] * 9, (0, 1, self.HELD))

    def test_the_number_at_the_end_is_no_drawer(self):
        for n in (-1, -2, -1000, 0, 1, 2, 3, 4, 1000, BIG, -BIG):
            for held in ([5, 6, 7], [0, 0, 0], [7, 6, 5], [5, 0, 7]):
                self.check_taken([("more", 1, n)], (0, 1, held))
                self.check_taken([("nought", 1, n)], (0, 1, held))
                self.check_taken([("less", 0, 1, n)], (0, 1, held))


class TestOneDrawer(RefusalCase):
    def test_an_add_and_a_take_of_one_drawer_with_itself(self):
        for drawer in (0, 1, 2):
            for row in [("add", drawer, drawer), ("take", drawer, drawer)]:
                self.check_refused(OneDrawer, [row], (0, 1, [5, 6, 7]))
                self.check_refused(OneDrawer, [row, ("rest",), ("rest",)], (1, 0, [5, 6, 7]))
                self.check_refused(OneDrawer, [("rest",), ("rest",), row], (1, 0, [5, 6, 7]))
                self.check_refused(OneDrawer, [("add", 0, 1), row], (0, 0, [5, 6, 7]))

    def test_a_machine_of_one_drawer(self):
        self.check_refused(OneDrawer, [("add", 0, 0)], (0, 1, [0]))
        self.check_refused(OneDrawer, [("take", 0, 0)], (0, 1, [0]))

    def test_two_drawers_that_are_numbers_far_up(self):
        # Numbers beyond the few that Python keeps ready, each made anew.
        drawer = int("70000")
        for kind in ("add", "take"):
            with self.assertRaises(OneDrawer):
                run_steps([(kind, drawer, int("70000"))], (0, 1, [0] * 100000), 0)

    def test_a_swap_and_a_less_of_one_drawer_with_itself_are_taken(self):
        for drawer in (0, 1, 2):
            for held in ([5, 6, 7], [0, 0, 0]):
                self.check_taken([("swap", drawer, drawer)], (0, 1, held))
                self.check_taken([("less", drawer, drawer, 1)], (0, 1, held))
        self.assertEqual(run_steps([("swap", 1, 1)], (0, 1, [5, 6]), 1), (0, 1, [5, 6]))
        self.assertEqual(run_steps([("less", 1, 1, 4)], (0, 1, [5, 6]), 1), (0, 1, [5, 6]))

    def test_two_drawers_that_hold_the_same_are_taken(self):
        self.check_taken([("add", 0, 1)], (0, 1, [6, 6]))
        self.check_taken([("take", 0, 1)], (0, 1, [6, 6]))

    def test_a_number_like_the_drawer_is_taken(self):
        for drawer in (0, 1, 2):
            self.check_taken([("more", drawer, drawer)], (0, 1, [5, 0, 7]))
            self.check_taken([("nought", drawer, drawer)], (0, 1, [5, 0, 7]))
            self.check_taken([("less", drawer, 1, drawer)], (0, 1, [5, 0, 7]))

    def test_one_drawer_in_two_rows_is_taken(self):
        self.check_taken([("add", 0, 1), ("add", 1, 0), ("take", 0, 1)], (0, 1, [5, 6]))


class TestOrder(RefusalCase):
    """A wheel without rows has no row that could name a drawer, so NoRow comes along with NoPlace alone."""

    HELD = [5, 6]
    NO_DRAWER = [("turn", 2), ("more", -1, 3), ("add", 0, 2), ("take", -1, 1), ("swap", 2, 2), ("less", 0, 5, 1)]
    ONE_DRAWER = [("add", 0, 0), ("take", 1, 1)]

    def test_no_row_ahead_of_no_place(self):
        for place in (-1, 0, 1, BIG, -BIG):
            self.check_refused(NoRow, [], (place, 1, self.HELD))

    def test_no_place_ahead_of_no_drawer(self):
        for row in self.NO_DRAWER:
            for place in (-1, 1, BIG, -BIG):
                self.check_refused(NoPlace, [row], (place, 1, self.HELD))

    def test_no_place_ahead_of_one_drawer(self):
        for row in self.ONE_DRAWER:
            for place in (-1, 1, BIG, -BIG):
                self.check_refused(NoPlace, [row], (place, 1, self.HELD))

    def test_no_drawer_ahead_of_one_drawer_in_whatever_order_the_rows_are(self):
        for none in self.NO_DRAWER:
            for one in self.ONE_DRAWER:
                for wheel in ([none, one], [one, none], [one, ("rest",), none], [one, one, ("rest",), none]):
                    for place in (0, len(wheel) - 1):
                        self.check_refused(NoDrawer, wheel, (place, 0, self.HELD))

    def test_no_drawer_ahead_of_one_drawer_in_one_row(self):
        for drawer in (-1, 2, BIG, -BIG):
            self.check_refused(NoDrawer, [("add", drawer, drawer)], (0, 1, self.HELD))
            self.check_refused(NoDrawer, [("take", drawer, drawer)], (0, 1, self.HELD))

    def test_no_place_ahead_of_both(self):
        for none in self.NO_DRAWER:
            for one in self.ONE_DRAWER:
                for wheel in ([none, one], [one, none]):
                    for place in (-1, 2, BIG, -BIG):
                        self.check_refused(NoPlace, wheel, (place, 1, self.HELD))
        for place in (-1, 1):
            self.check_refused(NoPlace, [("add", 2, 2)], (place, 1, self.HELD))


if __name__ == "__main__":
    unittest.main()
