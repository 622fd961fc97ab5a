"""Points 1, 9 and 10, and the interface, bothways/mirror.py."""

import unittest

from bothways.mirror import mirror_state, mirror_wheel
from bothways.runs import run_steps
from bothways.steps import step_back, step_forth
from machines import BIG, check_state_kinds, copy_of_state, copy_of_wheel, many_states, many_wheels, some_states


class TestMirrorWheel(unittest.TestCase):
    def check(self, wheel, mirror):
        with self.subTest(wheel=wheel):
            before = copy_of_wheel(wheel)
            told = mirror_wheel(wheel)
            self.assertIs(type(told), list)
            for row in told:
                self.assertIs(type(row), tuple)
            self.assertEqual(told, mirror)
            self.assertEqual(wheel, before)

    def test_a_wheel_of_one_row(self):
        self.check([("add", 0, 1)], [("take", 0, 1)])
        self.check([("take", 0, 1)], [("add", 0, 1)])
        self.check([("more", 0, 5)], [("more", 0, -5)])
        self.check([("swap", 0, 1)], [("swap", 0, 1)])
        self.check([("turn", 0)], [("turn", 0)])
        self.check([("nought", 0, BIG)], [("nought", 0, -BIG)])
        self.check([("less", 0, 1, -5)], [("less", 0, 1, 5)])
        self.check([("rest",)], [("rest",)])

    def test_the_opposite_of_the_last_row_comes_first(self):
        self.check([("add", 0, 1), ("more", 1, 2)], [("more", 1, -2), ("take", 0, 1)])
        self.check([("rest",), ("nought", 1, 1), ("turn", 0)], [("turn", 0), ("nought", 1, -1), ("rest",)])

    def test_every_kind_of_row(self):
        self.check(
            [("add", 0, 1), ("take", 1, 2), ("more", 2, 3), ("swap", 0, 2), ("turn", 1), ("nought", 0, -4),
             ("less", 2, 1, 5), ("rest",)],
            [("rest",), ("less", 2, 1, -5), ("nought", 0, 4), ("turn", 1), ("swap", 0, 2), ("more", 2, -3),
             ("add", 1, 2), ("take", 0, 1)],
        )

    def test_the_mirror_of_the_mirror(self):
        for wheel in many_wheels():
            with self.subTest(wheel=wheel):
                self.assertEqual(mirror_wheel(mirror_wheel(wheel)), wheel)

    def test_the_wheel_handed_in_is_not_the_one_told(self):
        for wheel in many_wheels():
            before = copy_of_wheel(wheel)
            told = mirror_wheel(wheel)
            told.append(("rest",))
            self.assertEqual(wheel, before)


class TestMirrorState(unittest.TestCase):
    def check(self, rows, state, mirror):
        wheel = [("rest",)] * rows
        with self.subTest(rows=rows, state=state):
            before = copy_of_state(state)
            told = mirror_state(wheel, state)
            check_state_kinds(self, told)
            self.assertEqual(told, mirror)
            self.assertEqual(state, before)

    def test_the_example_of_point_9(self):
        self.check(3, (0, 2, [5, 0]), (1, 2, [5, 0]))
        wheel = [("rest",), ("nought", 1, 1), ("rest",)]
        self.assertEqual(mirror_state(wheel, (0, 2, [5, 0])), (1, 2, [5, 0]))

    def test_a_pace_of_nought_counts_from_the_other_end(self):
        self.check(3, (0, 0, [5]), (2, 0, [5]))
        self.check(3, (1, 0, [5]), (1, 0, [5]))
        self.check(3, (2, 0, [5]), (0, 0, [5]))
        self.check(10, (3, 0, [5]), (6, 0, [5]))

    def test_a_pace_above_nought(self):
        self.check(10, (4, 1, [5]), (6, 1, [5]))
        self.check(10, (0, 1, [5]), (0, 1, [5]))
        self.check(10, (9, 1, [5]), (1, 1, [5]))
        self.check(10, (2, 5, [5]), (2, 5, [5]))

    def test_a_pace_below_nought(self):
        self.check(10, (4, -1, [5]), (4, -1, [5]))
        self.check(10, (9, -1, [5]), (9, -1, [5]))
        self.check(10, (0, -1, [5]), (8, -1, [5]))
        self.check(10, (8, -5, [5]), (6, -5, [5]))

    def test_a_pace_far_greater_than_the_wheel(self):
        # The last figure of BIG is nought, so round ten rows it leads to where one is.
        self.check(10, (4, 1000003, [5]), (8, 1000003, [5]))
        self.check(10, (4, -1000003, [5]), (2, -1000003, [5]))
        self.check(10, (4, BIG + 3, [5]), (8, BIG + 3, [5]))
        self.check(10, (4, -BIG - 3, [5]), (2, -BIG - 3, [5]))

    def test_a_wheel_of_one_row(self):
        for pace in (0, 1, -1, 7, -7, BIG, -BIG):
            self.check(1, (0, pace, [5, -BIG]), (0, pace, [5, -BIG]))

    def test_no_row_is_done(self):
        for row in (("more", 0, 1), ("turn", 0), ("nought", 1, 1), ("less", 1, 0, 1), ("swap", 0, 1), ("add", 0, 1)):
            with self.subTest(row=row):
                self.assertEqual(mirror_state([row] * 3, (0, 2, [5, 0])), (1, 2, [5, 0]))

    def test_the_mirror_of_the_mirror(self):
        for wheel in many_wheels():
            for state in many_states(wheel):
                with self.subTest(wheel=wheel, state=state):
                    self.assertEqual(mirror_state(mirror_wheel(wheel), mirror_state(wheel, state)), state)

    def test_nothing_handed_in_is_changed(self):
        for wheel in many_wheels():
            for state in many_states(wheel):
                with self.subTest(wheel=wheel, state=state):
                    wheel_before, state_before = copy_of_wheel(wheel), copy_of_state(state)
                    told = mirror_state(wheel, state)
                    check_state_kinds(self, told)
                    # Nor is it changed later, through the list that was told.
                    told[2][0] += 1
                    self.assertEqual(wheel, wheel_before)
                    self.assertEqual(state, state_before)

    def test_a_hundred_thousand_drawers(self):
        held = list(range(100000))
        # A plain truth test: a shown difference of such lists takes long to make.
        self.assertTrue(mirror_state([("rest",)] * 3, (0, 2, held)) == (1, 2, held))


class TestRunsOnTheMirror(unittest.TestCase):
    def check(self, wheel, state, steps):
        with self.subTest(wheel=wheel, state=state, steps=steps):
            on_the_mirror = run_steps(mirror_wheel(wheel), mirror_state(wheel, state), steps)
            self.assertEqual(on_the_mirror, mirror_state(wheel, run_steps(wheel, state, -steps)))

    def test_a_step_forth_on_the_mirror_is_a_step_back(self):
        wheel = [("more", 0, 1), ("more", 0, 10), ("more", 0, 100)]
        self.assertEqual(mirror_state(wheel, (0, 1, [0])), (0, 1, [0]))
        # Back from row nought the machine comes to the row of 100, the first one of the mirror.
        self.assertEqual(run_steps(mirror_wheel(wheel), (0, 1, [0]), 1), (1, 1, [-100]))
        self.assertEqual(run_steps(wheel, (0, 1, [0]), -1), (2, 1, [-100]))
        self.assertEqual(mirror_state(wheel, (2, 1, [-100])), (1, 1, [-100]))

    def test_single_steps(self):
        for wheel in many_wheels():
            mirror = mirror_wheel(wheel)
            for state in many_states(wheel):
                with self.subTest(wheel=wheel, state=state):
                    there = mirror_state(wheel, state)
                    self.assertEqual(step_forth(mirror, there), mirror_state(wheel, step_back(wheel, state)))
                    self.assertEqual(step_back(mirror, there), mirror_state(wheel, step_forth(wheel, state)))

    def test_some_steps_on_many_wheels_from_many_states(self):
        for wheel in many_wheels():
            for state in many_states(wheel):
                for steps in (0, 1, -1, 2, -2, 17, -17):
                    self.check(wheel, state, steps)

    def test_many_steps(self):
        for wheel in many_wheels():
            for state in some_states(wheel):
                for steps in (300, -300, 1000, -1000):
                    self.check(wheel, state, steps)

    def test_a_hundred_thousand_drawers(self):
        held = list(range(100000))
        wheel = [("more", 99999, 1), ("turn", 50000), ("nought", 0, 1), ("rest",)]
        for steps in (100, -100):
            on_the_mirror = run_steps(mirror_wheel(wheel), mirror_state(wheel, (0, 1, held)), steps)
            self.assertTrue(on_the_mirror == mirror_state(wheel, run_steps(wheel, (0, 1, held), -steps)))


if __name__ == "__main__":
    unittest.main()
