"""What has to be remembered beside the state so that every action can be undone.

An extension is a pair (wide, image): a system of up to 120 states, and the state of the system for each of them. A
merge is a tuple (command, one, other). Evidence is ("merge", merge) or ("extension", extension).
"""

from undobystate.agreeing import first_merged
from undobystate.effects import count_effects, effect_of, effect_system
from undobystate.groups import failing_in
from undobystate.pairs import are_kept
from undobystate.reach import reached_from, sequences_from
from undobystate.systems import after, check_system, follow, has_word, is_command, is_index_tuple, is_sequence
from undobystate.systems import is_system_within, is_tuple_of

MOST_WIDE_STATES = 120
MOST_APART = 120


def first_merge(system):
    """Return a merge of the first command that is not one to one, or None if all are, without checks."""
    first = sequences_from(system, system[1])
    for command in range(len(system[2])):
        pair = first_merged(system, command)
        if pair is not None:
            return (command, first[pair[0]], first[pair[1]])
    return None


def least_states(system):
    """Return the least number of reachable states of a good extension, or None if there is none."""
    check_system(system)
    if first_merge(system) is not None:
        return None
    return count_effects(system)


def is_wide(system, value):
    """Tell whether the value is a wide system with as many commands as the system."""
    return is_system_within(value, MOST_WIDE_STATES) and len(value[2]) == len(system[2])


def is_extension(system, value):
    """Tell whether the value is an extension, without checks of the system."""
    if not is_tuple_of(value, 2) or not is_wide(system, value[0]):
        return False
    wide, image = value
    if not is_index_tuple(image, system[0]) or len(image) != wide[0] or image[wide[1]] != system[1]:
        return False
    return are_kept(wide, system, reached_from(wide, wide[1]), image)


def accepts_extension(system, value):
    """Tell whether the value is an extension."""
    check_system(system)
    return is_extension(system, value)


def accepts_apart(system, value):
    """Tell whether the value is sequences no two of which have the same effect."""
    check_system(system)
    if not isinstance(value, tuple) or not 1 <= len(value) <= MOST_APART:
        return False
    if not all(is_sequence(system, sequence) for sequence in value):
        return False
    effects = [effect_of(system, sequence) for sequence in value]
    return len(set(effects)) == len(value)


def remembering_evidence(system):
    """Return accepted evidence: a merge, or the system of effects with its image."""
    check_system(system)
    merge = first_merge(system)
    if merge is None:
        return ("extension", effect_system(system))
    return ("merge", merge)


def is_merge(system, value):
    """Tell whether the value is a command and two sequences to different states that it leads to the same one."""
    if not is_tuple_of(value, 3) or not is_command(system, value[0]):
        return False
    command, one, other = value
    if not is_sequence(system, one) or not is_sequence(system, other):
        return False
    first, second = follow(system, system[1], one), follow(system, system[1], other)
    return first != second and after(system, first, command) == after(system, second, command)


def accepts_remembering(system, value):
    """Tell whether the value is evidence of either word: a merge, or a good extension."""
    check_system(system)
    if has_word(value, "merge", 2):
        return is_merge(system, value[1])
    if not has_word(value, "extension", 2) or not is_extension(system, value[1]):
        return False
    return failing_in(value[1][0]) == ()
