"""Points 1, 4 and 5, and the interface, bothways/rows.py."""

import unittest

from bothways.rows import done_by, opposite_of

# Sixty figures: far beyond a machine word.
BIG = 123456789012345678901234567890123456789012345678901234567890
NUMBERS = [0, 1, -1, 2, -7, 2**31, -(2**31), 2**63, -(2**63), 2**64 + 1, BIG, -BIG]
PACES = [0, 1, -1, 5, -5, BIG, -BIG]


def rows_of_two_drawers():
    """Every kind of row on the drawers nought and one, in each order that point 4 allows."""
    rows = [("rest",)]
    for a, b in [(0, 1), (1, 0)]:
        rows += [("add", a, b), ("take", a, b)]
    for a in (0, 1):
        rows += [("turn", a)]
        rows += [("more", a, n) for n in NUMBERS]
        rows += [("nought", a, n) for n in NUMBERS]
        for b in (0, 1):
            rows += [("swap", a, b)]
            rows += [("less", a, b, n) for n in NUMBERS]
    return rows


class TestOpposite(unittest.TestCase):
    def check(self, row, opposite):
        with self.subTest(row=row):
            told = opposite_of(row)
            self.assertEqual(told, opposite)
            self.assertIs(type(told), tuple)

    def test_add_becomes_take_of_the_same_drawers_in_the_same_order(self):
        self.check(("add", 0, 1), ("take", 0, 1))
        self.check(("add", 1, 0), ("take", 1, 0))
        self.check(("add", 99999, 7), ("take", 99999, 7))

    def test_take_becomes_add_of_the_same_drawers_in_the_same_order(self):
        self.check(("take", 0, 1), ("add", 0, 1))
        self.check(("take", 1, 0), ("add", 1, 0))
        self.check(("take", 7, 99999), ("add", 7, 99999))

    def test_more_changes_the_sign_of_its_number(self):
        self.check(("more", 3, 5), ("more", 3, -5))
        self.check(("more", 0, -5), ("more", 0, 5))
        self.check(("more", 3, 0), ("more", 3, 0))
        self.check(("more", 3, BIG), ("more", 3, -BIG))
        self.check(("more", 3, -BIG), ("more", 3, BIG))

    def test_nought_changes_the_sign_of_its_number(self):
        self.check(("nought", 3, 5), ("nought", 3, -5))
        self.check(("nought", 0, -5), ("nought", 0, 5))
        self.check(("nought", 3, 0), ("nought", 3, 0))
        self.check(("nought", 3, BIG), ("nought", 3, -BIG))
        self.check(("nought", 3, -BIG), ("nought", 3, BIG))

    def test_less_changes_the_sign_of_its_number_alone(self):
        self.check(("less", 3, 4, 5), ("less", 3, 4, -5))
        self.check(("less", 4, 3, -5), ("less", 4, 3, 5))
        self.check(("less", 3, 4, 0), ("less", 3, 4, 0))
        self.check(("less", 2, 2, 1), ("less", 2, 2, -1))
        self.check(("less", 3, 4, BIG), ("less", 3, 4, -BIG))
        self.check(("less", 3, 4, -BIG), ("less", 3, 4, BIG))

    def test_swap_turn_and_rest_are_their_own_opposites(self):
        for row in [("swap", 0, 1), ("swap", 1, 0), ("swap", 2, 2), ("turn", 0), ("turn", 5), ("rest",)]:
            self.check(row, row)

    def test_the_opposite_of_the_opposite_is_the_row(self):
        for row in rows_of_two_drawers():
            self.check(opposite_of(row), row)


class TestDoneBy(unittest.TestCase):
    def check(self, row, pace, held, pace_behind, held_behind):
        with self.subTest(row=row, pace=pace, held=held):
            before = list(held)
            told = done_by(row, pace, held)
            self.assertIs(type(told), tuple)
            self.assertEqual(told, (pace_behind, held_behind))
            self.assertIs(type(told[1]), list)
            self.assertEqual(held, before)

    def check_held(self, row, held, held_behind):
        """A row that tells nothing of the pace leaves every pace as it is."""
        for pace in PACES:
            self.check(row, pace, list(held), pace, held_behind)

    def check_growth(self, row, held, growth):
        """A row that tells of the pace alone leaves the drawers as they are."""
        for pace in PACES:
            self.check(row, pace, list(held), pace + growth, list(held))

    def test_add(self):
        self.check_held(("add", 0, 1), [5, 3], [8, 3])
        self.check_held(("add", 1, 0), [5, 3], [5, 8])
        self.check_held(("add", 2, 0), [5, 3, -9, 4], [5, 3, -4, 4])
        self.check_held(("add", 0, 1), [5, 0], [5, 0])
        self.check_held(("add", 0, 1), [-5, -3], [-8, -3])
        self.check_held(("add", 0, 1), [BIG, BIG], [2 * BIG, BIG])
        self.check_held(("add", 0, 1), [BIG, -BIG], [0, -BIG])
        self.check_held(("add", 0, 1), [BIG, 1], [BIG + 1, 1])

    def test_take(self):
        self.check_held(("take", 0, 1), [5, 3], [2, 3])
        self.check_held(("take", 1, 0), [5, 3], [5, -2])
        self.check_held(("take", 2, 0), [5, 3, -9, 4], [5, 3, -14, 4])
        self.check_held(("take", 0, 1), [5, 0], [5, 0])
        self.check_held(("take", 0, 1), [-5, -3], [-2, -3])
        self.check_held(("take", 0, 1), [BIG, -BIG], [2 * BIG, -BIG])
        self.check_held(("take", 0, 1), [BIG, BIG], [0, BIG])
        self.check_held(("take", 0, 1), [-BIG, 1], [-BIG - 1, 1])

    def test_more(self):
        self.check_held(("more", 0, 4), [5], [9])
        self.check_held(("more", 0, -7), [5], [-2])
        self.check_held(("more", 0, 0), [5], [5])
        self.check_held(("more", 1, 4), [5, 6, 7], [5, 10, 7])
        self.check_held(("more", 0, BIG), [1], [BIG + 1])
        self.check_held(("more", 0, -BIG), [-BIG], [-2 * BIG])

    def test_swap(self):
        self.check_held(("swap", 0, 1), [5, 3], [3, 5])
        self.check_held(("swap", 1, 0), [5, 3], [3, 5])
        self.check_held(("swap", 3, 1), [5, 3, 8, -1], [5, -1, 8, 3])
        self.check_held(("swap", 0, 1), [4, 4], [4, 4])
        self.check_held(("swap", 0, 1), [BIG, -BIG], [-BIG, BIG])

    def test_swap_of_one_drawer_with_itself(self):
        self.check_held(("swap", 0, 0), [5], [5])
        self.check_held(("swap", 1, 1), [5, -BIG, 7], [5, -BIG, 7])

    def test_turn(self):
        self.check_held(("turn", 0), [5], [-5])
        self.check_held(("turn", 0), [-5], [5])
        self.check_held(("turn", 0), [0], [0])
        self.check_held(("turn", 1), [5, 6, 7], [5, -6, 7])
        self.check_held(("turn", 0), [BIG], [-BIG])
        self.check_held(("turn", 0), [-BIG], [BIG])

    def test_rest(self):
        self.check_held(("rest",), [0], [0])
        self.check_held(("rest",), [5, 0, -BIG], [5, 0, -BIG])

    def test_nought_where_the_drawer_holds_nought(self):
        for n in NUMBERS:
            self.check_growth(("nought", 0, n), [0], n)
            self.check_growth(("nought", 1, n), [5, 0, 5], n)

    def test_nought_where_the_drawer_holds_another_number(self):
        for n in NUMBERS:
            for number in (1, -1, 5, BIG, -BIG):
                self.check_growth(("nought", 0, n), [number], 0)
                self.check_growth(("nought", 1, n), [0, number, 0], 0)

    def test_less_where_the_first_holds_less(self):
        for n in NUMBERS:
            for low, high in [(0, 1), (-1, 0), (-5, 5), (-BIG, BIG), (BIG, BIG + 1), (-BIG - 1, -BIG)]:
                self.check_growth(("less", 0, 1, n), [low, high], n)
                self.check_growth(("less", 2, 0, n), [high, 7, low], n)

    def test_less_where_the_first_holds_as_much(self):
        for n in NUMBERS:
            for number in (0, 1, -1, BIG, -BIG):
                self.check_growth(("less", 0, 1, n), [number, number], 0)

    def test_less_where_the_first_holds_more(self):
        for n in NUMBERS:
            for low, high in [(0, 1), (-1, 0), (-5, 5), (-BIG, BIG), (BIG, BIG + 1), (-BIG - 1, -BIG)]:
                self.check_growth(("less", 0, 1, n), [high, low], 0)
                self.check_growth(("less", 2, 0, n), [low, 7, high], 0)

    def test_less_of_one_drawer_with_itself(self):
        for n in NUMBERS:
            for number in (0, 3, -3, BIG):
                self.check_growth(("less", 0, 0, n), [number], 0)
                self.check_growth(("less", 1, 1, n), [9, number, -9], 0)

    def test_many_drawers(self):
        count = 100000
        last = count - 1
        held = list(range(count))
        cases = [
            (("add", last, 2), {last: last + 2}),
            (("take", 2, last), {2: 2 - last}),
            (("more", last, BIG), {last: last + BIG}),
            (("swap", 1, last), {1: last, last: 1}),
            (("turn", last), {last: -last}),
            (("nought", last, 4), {}),
            (("less", last, 0, 4), {}),
            (("rest",), {}),
        ]
        for row, changes in cases:
            with self.subTest(row=row):
                behind = list(range(count))
                for drawer, number in changes.items():
                    behind[drawer] = number
                # A plain truth test: a shown difference of such lists takes long to make.
                self.assertTrue(done_by(row, 3, held) == (3, behind))
                self.assertTrue(held == list(range(count)))
        self.assertTrue(done_by(("nought", 0, 4), 3, held) == (7, held))
        self.assertTrue(done_by(("less", 0, last, 4), 3, held) == (7, held))


class TestHandedIn(unittest.TestCase):
    def test_nothing_handed_in_is_changed_by_any_row(self):
        for row in rows_of_two_drawers():
            for held in ([0, 0], [5, 3], [3, 5], [0, BIG], [-BIG, 0]):
                with self.subTest(row=row, held=held):
                    given = list(held)
                    behind = done_by(row, 1, given)[1]
                    self.assertEqual(given, held)
                    # Nor is it changed later, through the list that was told.
                    behind[0] += 1
                    self.assertEqual(given, held)


class TestUndone(unittest.TestCase):
    def test_the_opposite_undoes_the_row(self):
        for row in rows_of_two_drawers():
            for pace in PACES:
                for held in ([0, 0], [5, 3], [3, 5], [-4, -4], [0, BIG], [-BIG, 0]):
                    with self.subTest(row=row, pace=pace, held=held):
                        pace_behind, held_behind = done_by(row, pace, held)
                        self.assertEqual(done_by(opposite_of(row), pace_behind, held_behind), (pace, held))


if __name__ == "__main__":
    unittest.main()
