"""The effects of sequences, their first sequences, and the system that has them as states.

The effect of a sequence is the tuple of the states to which it leads from the reachable states, in ascending order.
"""

from undobystate.agreeing import least_difference
from undobystate.errors import TooLarge
from undobystate.reach import reachable, reached_from, tuples_from
from undobystate.systems import all_after, check_sequence, check_system, follow

MOST_EFFECTS = 120


def effect_of(system, sequence):
    """Return the effect of the sequence, without checks."""
    return tuple([follow(system, state, sequence) for state in reached_from(system, system[1])])


def effects_of(system):
    """Return a dict that gives each effect its first sequence, in the order of these."""
    chosen = reachable(system)
    found = tuples_from(system, chosen, MOST_EFFECTS)
    if len(found) > MOST_EFFECTS:
        raise TooLarge("effects")
    return found


def count_effects(system):
    """Return the number of the effects."""
    return len(effects_of(system))


def first_sequences(system):
    """Return the list of the first sequences of all effects, in their order."""
    return list(effects_of(system).values())


def have_same_effect(system, one, other):
    """Tell whether both sequences have the same effect."""
    check_system(system)
    check_sequence(system, one, "one")
    check_sequence(system, other, "other")
    return least_difference(system, one, other) is None


def effect_system(system):
    """Return the pair of the system of effects and its image."""
    found = list(effects_of(system))
    numbers = {effect: number for number, effect in enumerate(found)}
    commands = [tuple([numbers[all_after(row, effect)] for effect in found]) for row in system[2]]
    place = reached_from(system, system[1]).index(system[1])
    image = tuple([effect[place] for effect in found])
    return ((len(found), 0, tuple(commands)), image)
