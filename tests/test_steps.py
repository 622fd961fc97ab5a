"""Points 1, 2, 3, 6 and 7, and the interface, bothways/steps.py."""

import unittest

from bothways.steps import step_back, step_forth
from machines import BIG, check_state_kinds, copy_of_state, copy_of_wheel, many_states, many_wheels

TEN_RESTS = [("rest",)] * 10


class StepCase(unittest.TestCase):
    def check_one(self, step, wheel, state, behind):
        wheel_before, state_before = copy_of_wheel(wheel), copy_of_state(state)
        told = step(wheel, state)
        check_state_kinds(self, told)
        self.assertEqual(told, behind)
        self.assertEqual(wheel, wheel_before)
        self.assertEqual(state, state_before)

    def check(self, wheel, first, second):
        """A step forth leads from the first to the second, and a step back from the second to the first."""
        with self.subTest(wheel=wheel, first=first, second=second):
            self.check_one(step_forth, wheel, first, second)
            self.check_one(step_back, wheel, second, first)


class TestExample(StepCase):
    def test_the_two_states_of_point_6(self):
        self.check([("rest",), ("nought", 1, 1), ("rest",)], (1, 1, [5, 0]), (0, 2, [5, 0]))


class TestKindsOfRows(StepCase):
    """The row in question is row one of three; the others would show if they were done in its place."""

    def check_row(self, row, first, second):
        self.check([("more", 0, 100), row, ("more", 1, 1000)], first, second)

    def test_add(self):
        self.check_row(("add", 0, 1), (1, 1, [5, 3]), (2, 1, [8, 3]))
        self.check_row(("add", 1, 0), (1, -1, [5, 3]), (0, -1, [5, 8]))

    def test_take(self):
        self.check_row(("take", 0, 1), (1, 1, [5, 3]), (2, 1, [2, 3]))
        self.check_row(("take", 1, 0), (1, -1, [5, 3]), (0, -1, [5, -2]))

    def test_more(self):
        self.check_row(("more", 0, 4), (1, 1, [5, 3]), (2, 1, [9, 3]))
        self.check_row(("more", 1, -BIG), (1, 1, [5, 3]), (2, 1, [5, 3 - BIG]))

    def test_swap(self):
        self.check_row(("swap", 0, 1), (1, 1, [5, 3]), (2, 1, [3, 5]))
        self.check_row(("swap", 1, 1), (1, 1, [5, 3]), (2, 1, [5, 3]))

    def test_turn(self):
        self.check_row(("turn", 0), (1, 1, [5, -3]), (2, 1, [-5, -3]))
        self.check_row(("turn", 1), (1, 1, [5, -3]), (2, 1, [5, 3]))
        self.check_row(("turn", 1), (1, 1, [5, 0]), (2, 1, [5, 0]))

    def test_rest(self):
        self.check_row(("rest",), (1, 1, [5, 3]), (2, 1, [5, 3]))
        self.check_row(("rest",), (1, 2, [0, 0]), (0, 2, [0, 0]))

    def test_nought_that_does_nothing(self):
        self.check_row(("nought", 0, 1), (1, 1, [5, 0]), (2, 1, [5, 0]))
        self.check_row(("nought", 0, 1), (1, 1, [-5, 0]), (2, 1, [-5, 0]))

    def test_less_that_does_nothing(self):
        self.check_row(("less", 0, 1, 1), (1, 1, [5, 3]), (2, 1, [5, 3]))
        self.check_row(("less", 0, 1, 1), (1, 1, [3, 3]), (2, 1, [3, 3]))
        self.check_row(("less", 0, 0, 1), (1, 1, [3, 5]), (2, 1, [3, 5]))


class TestChangedPace(StepCase):
    """The place goes by the pace as it is behind the row."""

    def check_growth(self, n, pace, pace_behind, place_behind):
        for row, held in [(("nought", 0, n), [0, 7]), (("less", 0, 1, n), [-2, -1])]:
            wheel = list(TEN_RESTS)
            wheel[4] = row
            self.check(wheel, (4, pace, held), (place_behind, pace_behind, held))

    def test_a_greater_pace(self):
        self.check_growth(1, 1, 2, 6)
        self.check_growth(5, 3, 8, 2)
        self.check_growth(2, -1, 1, 5)

    def test_a_smaller_pace(self):
        self.check_growth(-1, 4, 3, 7)
        self.check_growth(-3, 1, -2, 2)
        self.check_growth(-5, -4, -9, 5)

    def test_the_same_pace(self):
        self.check_growth(0, 3, 3, 7)

    def test_a_pace_that_becomes_nought(self):
        self.check_growth(-3, 3, 0, 4)
        self.check_growth(BIG, -BIG, 0, 4)

    def test_a_pace_that_was_nought(self):
        self.check_growth(3, 0, 3, 7)
        self.check_growth(-3, 0, -3, 1)

    def test_a_pace_of_sixty_figures(self):
        # The last figure of BIG is nought, so round ten rows it leads to where one is.
        self.check_growth(BIG, 3, BIG + 3, 7)
        self.check_growth(-BIG, 3, 3 - BIG, 7)
        self.check_growth(2, BIG, BIG + 2, 6)
        self.check_growth(2, -BIG, 2 - BIG, 6)


class TestPaces(StepCase):
    def check_ten(self, pace, place, place_behind):
        self.check(TEN_RESTS, (place, pace, [7]), (place_behind, pace, [7]))

    def test_a_pace_of_nought_stays(self):
        for place in (0, 4, 9):
            self.check_ten(0, place, place)
        self.check([("rest",), ("more", 0, 1)], (1, 0, [7]), (1, 0, [8]))

    def test_a_pace_above_nought(self):
        self.check_ten(1, 0, 1)
        self.check_ten(1, 8, 9)
        self.check_ten(1, 9, 0)
        self.check_ten(4, 7, 1)
        self.check_ten(9, 0, 9)
        self.check_ten(9, 9, 8)

    def test_a_pace_below_nought(self):
        self.check_ten(-1, 9, 8)
        self.check_ten(-1, 1, 0)
        self.check_ten(-1, 0, 9)
        self.check_ten(-4, 1, 7)
        self.check_ten(-9, 9, 0)
        self.check_ten(-9, 0, 1)

    def test_a_pace_of_whole_rounds(self):
        for pace in (10, -10, 20, -20, 1000000, -1000000, BIG, -BIG):
            for place in (0, 4, 9):
                self.check_ten(pace, place, place)

    def test_a_pace_far_greater_than_the_wheel(self):
        self.check_ten(13, 4, 7)
        self.check_ten(-13, 4, 1)
        self.check_ten(1000003, 8, 1)
        self.check_ten(-1000003, 1, 8)

    def test_a_pace_of_sixty_figures(self):
        self.check_ten(BIG + 3, 4, 7)
        self.check_ten(BIG + 3, 8, 1)
        self.check_ten(-BIG - 3, 4, 1)
        self.check_ten(-BIG - 3, 1, 8)
        self.check_ten(10**59 + 1, 9, 0)
        self.check_ten(-(10**59) - 1, 0, 9)

    def test_a_wheel_of_one_row(self):
        for pace in (0, 1, -1, 2, -2, 1000003, -1000003, BIG, -BIG):
            self.check([("more", 0, 2)], (0, pace, [7]), (0, pace, [9]))
            self.check([("nought", 0, 5)], (0, pace, [0]), (0, pace + 5, [0]))

    def test_a_wheel_of_many_rows(self):
        wheel = [("more", 0, place) for place in range(5000)]
        for place, pace, place_behind in [
            (0, 1, 1), (4999, 1, 0), (0, -1, 4999), (4000, 3000, 2000), (1000, -3000, 3000),
            (7, 10**59, 7), (7, 10**59 + 4993, 0), (7, -(10**59) - 8, 4999), (2500, 0, 2500),
        ]:
            # Not through check: a shown wheel of so many rows helps nobody.
            with self.subTest(place=place, pace=pace):
                first, second = (place, pace, [1]), (place_behind, pace, [1 + place])
                self.assertEqual(step_forth(wheel, first), second)
                self.assertEqual(step_back(wheel, second), first)


class TestThereAndBack(unittest.TestCase):
    def test_a_step_back_behind_a_step_forth(self):
        for wheel in many_wheels():
            for state in many_states(wheel):
                with self.subTest(wheel=wheel, state=state):
                    self.assertEqual(step_back(wheel, step_forth(wheel, state)), state)

    def test_a_step_forth_behind_a_step_back(self):
        for wheel in many_wheels():
            for state in many_states(wheel):
                with self.subTest(wheel=wheel, state=state):
                    self.assertEqual(step_forth(wheel, step_back(wheel, state)), state)


class TestHandedIn(unittest.TestCase):
    def test_nothing_handed_in_is_changed(self):
        for step in (step_forth, step_back):
            for wheel in many_wheels():
                for state in many_states(wheel):
                    with self.subTest(step=step, wheel=wheel, state=state):
                        wheel_before, state_before = copy_of_wheel(wheel), copy_of_state(state)
                        told = step(wheel, state)
                        check_state_kinds(self, told)
                        # Nor is it changed later, through the list that was told.
                        told[2][0] += 1
                        self.assertEqual(wheel, wheel_before)
                        self.assertEqual(state, state_before)


class TestManyDrawers(unittest.TestCase):
    def test_a_hundred_thousand_drawers(self):
        last = 100000 - 1
        held = list(range(last + 1))
        behind = list(range(last + 1))
        behind[last] = last + 5
        wheel = [("add", last, 5), ("rest",), ("less", 0, last, 1)]
        # Plain truth tests: a shown difference of such lists takes long to make.
        self.assertTrue(step_forth(wheel, (0, 1, held)) == (1, 1, behind))
        self.assertTrue(step_back(wheel, (1, 1, behind)) == (0, 1, held))
        self.assertTrue(step_forth(wheel, (1, 1, held)) == (2, 1, held))
        self.assertTrue(step_back(wheel, (2, 1, held)) == (1, 1, held))
        self.assertTrue(step_forth(wheel, (2, 1, held)) == (1, 2, held))
        self.assertTrue(step_back(wheel, (1, 2, held)) == (2, 1, held))
        self.assertTrue(held == list(range(last + 1)))


if __name__ == "__main__":
    unittest.main()
