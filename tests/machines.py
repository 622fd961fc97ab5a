"""Wheels and states for the tests of steps, runs and the mirror. All have three drawers."""

# Sixty figures: far beyond a machine word.
BIG = 123456789012345678901234567890123456789012345678901234567890
NUMBERS = [0, 1, -1, 2, -3, 10, -2001, BIG, -BIG]
PACES = [0, 1, -1, 2, -2, 5, -7, 1000003, -1000003, BIG, -BIG]
HOLDINGS = [[0, 0, 0], [5, 0, -3], [1, 2, 3], [3, 2, 1], [-4, -4, 7], [BIG, -BIG, 0]]
KINDS = ("add", "take", "more", "swap", "turn", "nought", "less", "rest")


class Picker:
    """Picks one thing after the other, in the same order with every run of the tests."""

    def __init__(self, seed):
        self.number = seed

    def pick(self, things):
        self.number = (self.number * 6364136223846793005 + 1442695040888963407) % 2**64
        return things[(self.number >> 33) % len(things)]


def picked_row(picker):
    kind = picker.pick(KINDS)
    a, b, n = picker.pick((0, 1, 2)), picker.pick((0, 1, 2)), picker.pick(NUMBERS)
    if kind in ("add", "take"):
        return (kind, a, (a + 1 + b % 2) % 3)
    if kind == "swap":
        return (kind, a, b)
    if kind == "turn":
        return (kind, a)
    if kind == "less":
        return (kind, a, b, n)
    if kind == "rest":
        return (kind,)
    return (kind, a, n)


def many_wheels():
    """Wheels of one row of each kind, and longer ones of rows of all kinds."""
    wheels = [
        [("add", 0, 1)],
        [("take", 2, 0)],
        [("more", 1, -3)],
        [("swap", 0, 2)],
        [("swap", 1, 1)],
        [("turn", 1)],
        [("nought", 1, 4)],
        [("less", 0, 1, -4)],
        [("less", 2, 2, 1)],
        [("rest",)],
    ]
    picker = Picker(1)
    for length in (2, 3, 4, 5, 6, 7, 8, 10, 13, 20, 50):
        for again in range(3):
            wheels.append([picked_row(picker) for place in range(length)])
    return wheels


def many_states(wheel):
    """A state for each pace and each holding, at places spread over the wheel, its two ends among them."""
    places = sorted({0, len(wheel) // 2, len(wheel) - 1})
    states = []
    for pace in PACES:
        for held in HOLDINGS:
            states.append((places[len(states) % len(places)], pace, list(held)))
    return states


def some_states(wheel):
    """A few of them, for what takes many steps."""
    return many_states(wheel)[::7]


def copy_of_wheel(wheel):
    return [tuple(row) for row in wheel]


def copy_of_state(state):
    return (state[0], state[1], list(state[2]))


def check_state_kinds(case, state):
    case.assertIs(type(state), tuple)
    case.assertEqual(len(state), 3)
    case.assertIs(type(state[0]), int)
    case.assertIs(type(state[1]), int)
    case.assertIs(type(state[2]), list)
