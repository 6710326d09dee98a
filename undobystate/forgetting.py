"""Which blocks of states tell so little that every action can be undone by them, and why no finer ones do.

Blocks are a tuple with the number of a block for each reachable state, and None for the others. Joins are a tuple of
steps, ("command", one, other, command) or ("action", state, command, first, second). Of what steps have joined, a list
tells for each state the least state that is joined with it.
"""

from undobystate.pairs import have_one_second_each, is_refuting, pairs_from
from undobystate.reach import check_reachable, is_reachable, reachable
from undobystate.systems import after, check_system, follow, has_word, is_command, is_index, is_tuple_of

MOST_BLOCKS = 8
MOST_STEPS = 100


def pairs_of_actions(system):
    """Return the list of (state, command, pairs with their sequences) of the actions in reachable states."""
    actions = []
    for state in reachable(system):
        for command, row in enumerate(system[2]):
            actions.append((state, command, pairs_from(system, row[state], state)))
    return actions


def command_step(system, least):
    """Return a step by which a command joins two states that are not joined yet, or None."""
    for other in reachable(system):
        # Joined states are joined with the least of them: if each goes with this one, any two go together.
        one = least[other]
        for command, row in enumerate(system[2]):
            if least[row[one]] != least[row[other]]:
                return ("command", one, other, command)
    return None


def action_step(actions, least):
    """Return a step by which an action joins two states that are not joined yet, or None."""
    for state, command, found in actions:
        earliest = {}
        for pair in found:
            known = earliest.setdefault(least[pair[0]], pair)
            if least[known[1]] != least[pair[1]]:
                return ("action", state, command, found[known], found[pair])
    return None


def asked_by(system, step):
    """Return the two states that have to be joined already so that the step holds."""
    if step[0] == "command":
        return (step[1], step[2])
    behind = after(system, step[1], step[2])
    return (follow(system, behind, step[3]), follow(system, behind, step[4]))


def told_by(system, step):
    """Return the two states that the step joins."""
    if step[0] == "command":
        return (after(system, step[1], step[3]), after(system, step[2], step[3]))
    return (follow(system, step[1], step[3]), follow(system, step[1], step[4]))


def joined_by(system, least, step):
    """Return what is joined with the step made, too."""
    one, other = told_by(system, step)
    low, high = min(least[one], least[other]), max(least[one], least[other])
    return [low if state == high else state for state in least]


def all_steps(system):
    """Return a list of steps, each of which holds and joins something, until none is left that does."""
    actions = pairs_of_actions(system)
    least = list(range(system[0]))
    steps = []
    step = command_step(system, least) or action_step(actions, least)
    while step is not None:
        steps.append(step)
        least = joined_by(system, least, step)
        step = command_step(system, least) or action_step(actions, least)
    return steps


def finest(system):
    """Return the finest revocable blocks."""
    check_system(system)
    least = list(range(system[0]))
    for step in all_steps(system):
        least = joined_by(system, least, step)
    chosen = reachable(system)
    order = [state for state in chosen if least[state] == state]
    return tuple([order.index(least[state]) if state in chosen else None for state in range(system[0])])


def quotient(system):
    """Return the system whose states are the finest blocks."""
    blocks = finest(system)
    many = max([0 if block is None else block + 1 for block in blocks])
    lowest = [blocks.index(block) for block in range(many)]
    commands = [tuple([blocks[row[state]] for state in lowest]) for row in system[2]]
    return (many, blocks[system[1]], tuple(commands))


def is_blocks(system, value):
    """Tell whether the value has the number of a block for each reachable state, and None for the others."""
    if not is_tuple_of(value, system[0]):
        return False
    chosen = reachable(system)
    return all(is_index(item, MOST_BLOCKS) if at in chosen else item is None for at, item in enumerate(value))


def accepts_blocks(system, value):
    """Tell whether the value is revocable blocks."""
    check_system(system)
    if not is_blocks(system, value):
        return False
    for row in system[2]:
        if not have_one_second_each([(value[state], value[row[state]]) for state in reachable(system)]):
            return False
    for action in pairs_of_actions(system):
        if not have_one_second_each([(value[first], value[second]) for first, second in action[2]]):
            return False
    return True


def is_step(system, value):
    """Tell whether the value is a step of joins."""
    if has_word(value, "command", 4):
        return is_reachable(system, value[1]) and is_reachable(system, value[2]) and is_command(system, value[3])
    if not has_word(value, "action", 5) or not all(is_refuting(system, sequence) for sequence in value[3:]):
        return False
    return is_reachable(system, value[1]) and is_command(system, value[2])


def accepts_joins(system, one, other, value):
    """Tell whether the value is joins, all steps of which hold, that join the two states."""
    check_system(system)
    check_reachable(system, one, "one")
    check_reachable(system, other, "other")
    if not isinstance(value, tuple) or len(value) > MOST_STEPS:
        return False
    least = list(range(system[0]))
    for step in value:
        if not is_step(system, step):
            return False
        first, second = asked_by(system, step)
        if least[first] != least[second]:
            return False
        least = joined_by(system, least, step)
    return least[one] == least[other]


def joins(system, one, other):
    """Return joins, all steps of which hold, that join the two states, or None if there are none."""
    check_system(system)
    check_reachable(system, one, "one")
    check_reachable(system, other, "other")
    least = list(range(system[0]))
    steps = []
    for step in all_steps(system):
        if least[one] == least[other]:
            break
        steps.append(step)
        least = joined_by(system, least, step)
    return tuple(steps) if least[one] == least[other] else None
