"""Points 1, 2, 3 and 8, and the interface, bothways/runs.py, but for what it refuses."""

import unittest

from bothways.runs import run_steps
from bothways.steps import step_back, step_forth
from machines import BIG, check_state_kinds, copy_of_state, copy_of_wheel, many_states, many_wheels, some_states

COUNTS = [0, 1, -1, 2, -2, 300, -300, 1000, -1000]
DRAWERS = 100000


def single_steps(wheel, state, steps):
    while steps > 0:
        state = step_forth(wheel, state)
        steps -= 1
    while steps < 0:
        state = step_back(wheel, state)
        steps += 1
    return state


class TestRuns(unittest.TestCase):
    def check(self, wheel, first, steps, second):
        """The run leads from the first to the second, and as many steps the other way from there to the first."""
        with self.subTest(wheel=wheel, first=first, steps=steps):
            self.assertEqual(run_steps(wheel, first, steps), second)
            self.assertEqual(run_steps(wheel, second, -steps), first)

    def test_one_step_as_in_point_6(self):
        self.check([("rest",), ("nought", 1, 1), ("rest",)], (1, 1, [5, 0]), 1, (0, 2, [5, 0]))

    def test_a_row_over_and_over(self):
        self.check([("more", 0, 3)], (0, 1, [5]), 1, (0, 1, [8]))
        self.check([("more", 0, 3)], (0, 1, [5]), -1, (0, 1, [2]))
        self.check([("more", 0, 3)], (0, 1, [5]), 300, (0, 1, [905]))
        self.check([("more", 0, 3)], (0, 1, [5]), 1000, (0, 1, [3005]))
        self.check([("more", 0, 3)], (0, 1, [5]), -1000, (0, 1, [-2995]))

    def test_rounds_of_a_wheel(self):
        wheel = [("more", 0, 1), ("more", 0, 10), ("more", 0, 100)]
        self.check(wheel, (0, 1, [0]), 2, (2, 1, [11]))
        self.check(wheel, (0, 1, [0]), 3, (0, 1, [111]))
        self.check(wheel, (0, 1, [0]), 1000, (1, 1, [333 * 111 + 1]))
        self.check(wheel, (0, 1, [0]), -1, (2, 1, [-100]))
        self.check(wheel, (0, 1, [0]), -2, (1, 1, [-110]))
        self.check(wheel, (0, -1, [0]), 2, (1, -1, [101]))
        self.check(wheel, (0, -1, [0]), -2, (2, -1, [-110]))
        self.check(wheel, (1, 0, [0]), 1000, (1, 0, [10000]))
        self.check(wheel, (1, 0, [0]), -1000, (1, 0, [-10000]))

    def test_rows_that_build_on_one_another(self):
        # Each drawer grows by the other in turn: 0, 1, 1, 2, 3, 5, 8 ..
        wheel = [("add", 0, 1), ("add", 1, 0)]
        self.check(wheel, (0, 1, [0, 1]), 10, (0, 1, [55, 89]))
        self.check(wheel, (0, 1, [0, 1]), 99, (1, 1, [354224848179261915075, 218922995834555169026]))

    def test_a_pace_that_changes_with_each_step(self):
        # The pace is 1, 2, 3, 4, 5 behind the steps, and so the place 1, 3, 6, 10, 15.
        wheel = [("nought", 0, 1)] * 10
        self.check(wheel, (0, 0, [0]), 5, (5, 5, [0]))
        self.check(wheel, (0, 0, [0]), 1000, (0, 1000, [0]))
        # The pace ahead of each step back is 0, -1, -2, and so the place 0, 1, 3.
        self.check(wheel, (0, 0, [0]), -3, (3, -3, [0]))

    def test_a_run_that_turns_round(self):
        # Behind the third row the pace is -1, and the machine goes back through the rows it came by.
        wheel = [("more", 0, 1), ("more", 0, 10), ("less", 1, 0, -2), ("more", 0, 100)]
        self.check(wheel, (0, 1, [0, 5]), 2, (2, 1, [11, 5]))
        self.check(wheel, (0, 1, [0, 5]), 3, (1, -1, [11, 5]))
        self.check(wheel, (0, 1, [0, 5]), 5, (3, -1, [22, 5]))
        self.check(wheel, (0, 1, [0, 5]), 6, (2, -1, [122, 5]))
        self.check(wheel, (0, 1, [0, 5]), 7, (3, -3, [122, 5]))

    def test_somewhat_more_than_a_thousand_steps(self):
        self.check([("more", 0, 3)], (0, 1, [5]), 1001, (0, 1, [3008]))
        self.check([("more", 0, 3)], (0, 1, [5]), -1500, (0, 1, [-4495]))


class TestAgainstSingleSteps(unittest.TestCase):
    def test_a_run_is_as_many_single_steps(self):
        for wheel in many_wheels():
            for state in some_states(wheel):
                for steps in COUNTS:
                    with self.subTest(wheel=wheel, state=state, steps=steps):
                        self.assertEqual(run_steps(wheel, state, steps), single_steps(wheel, state, steps))


class TestThereAndBack(unittest.TestCase):
    def test_some_steps_from_many_states(self):
        for wheel in many_wheels():
            for state in many_states(wheel):
                for steps in (1, -1, 17, -17):
                    with self.subTest(wheel=wheel, state=state, steps=steps):
                        self.assertEqual(run_steps(wheel, run_steps(wheel, state, steps), -steps), state)

    def test_many_steps(self):
        for wheel in many_wheels():
            for state in some_states(wheel):
                for steps in (300, -300, 1000, -1000):
                    with self.subTest(wheel=wheel, state=state, steps=steps):
                        self.assertEqual(run_steps(wheel, run_steps(wheel, state, steps), -steps), state)


class TestNoSteps(unittest.TestCase):
    def test_a_run_of_no_steps_leads_to_the_state_itself(self):
        for wheel in many_wheels():
            for state in many_states(wheel):
                with self.subTest(wheel=wheel, state=state):
                    self.assertEqual(run_steps(wheel, state, 0), state)


class TestHandedIn(unittest.TestCase):
    def test_nothing_handed_in_is_changed(self):
        for wheel in many_wheels():
            for state in some_states(wheel):
                for steps in (0, 1, -1, 2, -2, 100, -100):
                    with self.subTest(wheel=wheel, state=state, steps=steps):
                        wheel_before, state_before = copy_of_wheel(wheel), copy_of_state(state)
                        told = run_steps(wheel, state, steps)
                        check_state_kinds(self, told)
                        # Nor is it changed later, through the list that was told.
                        told[2][0] += 1
                        self.assertEqual(wheel, wheel_before)
                        self.assertEqual(state, state_before)


class TestManyDrawers(unittest.TestCase):
    def check(self, wheel, first, steps, second):
        # Plain truth tests: a shown difference of such lists takes long to make.
        with self.subTest(wheel=wheel, steps=steps):
            held_before = list(first[2])
            self.assertTrue(run_steps(wheel, first, steps) == second)
            self.assertTrue(run_steps(wheel, second, -steps) == first)
            self.assertTrue(first[2] == held_before)

    def test_a_wheel_that_names_none_of_them(self):
        held = list(range(DRAWERS))
        for steps, place in [(0, 0), (1000, 1), (-1000, 2)]:
            self.check([("rest",)] * 3, (0, 1, held), steps, (place, 1, held))

    def test_a_wheel_that_names_the_first_and_the_last(self):
        last = DRAWERS - 1
        held = [0] * DRAWERS
        forth, back = list(held), list(held)
        forth[0], forth[last] = 500, -1500
        back[0], back[last] = -500, 1500
        wheel = [("more", 0, 1), ("more", last, -3)]
        self.check(wheel, (0, 1, held), 1000, (0, 1, forth))
        self.check(wheel, (0, 1, held), -1000, (0, 1, back))

    def test_somewhat_more_of_them(self):
        held = [BIG] * (DRAWERS + 1)
        behind = list(held)
        behind[DRAWERS] = -BIG
        self.check([("turn", DRAWERS)], (0, 1, held), 1, (0, 1, behind))


if __name__ == "__main__":
    unittest.main()
