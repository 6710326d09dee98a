"""Systems and wrong values that several tests use."""

import itertools
import unittest

from undobystate.errors import BadValue, UndoError

# The example of the document's chapter on systems: the state 2 is not reachable.
EXAMPLE = (3, 0, ((1, 0, 2), (1, 1, 0)))

# The place of one of three cards, and six arrangements of them.
PLACE = (3, 0, ((1, 0, 2), (0, 2, 1)))
CARDS = (6, 0, ((1, 0, 4, 5, 2, 3), (2, 3, 0, 1, 5, 4)))

# Each command leads one state further, and the last state stays.
LADDER = (8, 0, ((1, 2, 3, 4, 5, 6, 7, 7),))
RING = (3, 0, ((1, 2, 0),))
ALONE = (1, 0, ())

# As large as a system can be.
WIDEST = (8, 7, (tuple(range(8)), (0,) * 8, (7, 6, 5, 4, 3, 2, 1, 0), (1, 2, 3, 4, 5, 6, 7, 0)))

# In the place of a number; True and False equal numbers that would be right.
NO_NUMBERS = [True, False, None, "", "0", "1", [], [0], [1], (), (0,), -1, -2, -8]

# In the place of a tuple.
NO_TUPLES = [None, True, False, 0, 1, "", "0", "01", [], [0], [0, 1], {}, {0: 1}]

# In the place of a system.
NO_SYSTEMS = NO_TUPLES + [
    (), (2,), (2, 0), (2, 0, (), ()), [2, 0, ()], (0, 0, ()), (9, 0, ()), (2, 2, ()), (2, -1, ()), (True, 0, ()),
    (2, True, ()), (2, False, ()), (2, None, ()), (2, 0, None), (2, 0, []), (2, 0, [(0, 1)]), (2, 0, ([0, 1],)),
    (2, 0, ((0,),)), (2, 0, ((0, 2),)), (2, 0, ((0, 1, 0),)), (2, 0, ((0, True),)), (2, 0, ((0, -1),)),
    (2, 0, ((0, 1),) * 5)]


class ArgumentCase(unittest.TestCase):
    """A test case that asks which argument an error names."""

    def assert_bad(self, name, function, *arguments):
        with self.subTest(function=function.__name__, arguments=arguments):
            with self.assertRaises(BadValue) as caught:
                function(*arguments)
            self.assertEqual(caught.exception.name, name)
            self.assertIsInstance(caught.exception, UndoError)
            self.assertIsInstance(caught.exception, ValueError)


def small_systems():
    """Return all systems of at most 2 states and at most 2 commands."""
    systems = []
    for states in (1, 2):
        rows = list(itertools.product(range(states), repeat=states))
        for start in range(states):
            for many in (0, 1, 2):
                for commands in itertools.product(rows, repeat=many):
                    systems.append((states, start, commands))
    return systems


def mixed_systems(many):
    """Return so many systems of all sizes, the same ones each time."""
    number = 12345
    systems = []
    for _ in range(many):
        drawn = []
        for _ in range(35):
            number = (number * 1103515245 + 12345) % 2 ** 31
            drawn.append(number >> 16)
        states = drawn[0] % 8 + 1
        rows = [tuple(item % states for item in drawn[3 + 8 * k:3 + 8 * k + states]) for k in range(4)]
        systems.append((states, drawn[1] % states, tuple(rows[:drawn[2] % 5])))
    return systems


def sequences_by_length(system, longest):
    """Yield all sequences with at most so many commands, in order by length."""
    for length in range(longest + 1):
        yield from itertools.product(range(len(system[2])), repeat=length)


def place_after(system, state, sequence):
    """Return where the sequence leads, by the words of the document alone."""
    for command in sequence:
        state = system[2][command][state]
    return state


def states_reached(system, state):
    """Return the set of the states that the state reaches, found without sequences."""
    reached = {state}
    for _ in range(system[0]):
        reached |= {row[here] for row in system[2] for here in reached}
    return reached
