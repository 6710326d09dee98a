"""Systems and wrong values that several tests use."""

import itertools
import unittest

from undobystate.errors import BadValue, TextError, UndoError

# The example of the document's chapter on systems: the state 2 is not reachable.
EXAMPLE = (3, 0, ((1, 0, 2), (1, 1, 0)))

# The place of one of three cards, and six arrangements of them.
PLACE = (3, 0, ((1, 0, 2), (0, 2, 1)))
CARDS = (6, 0, ((1, 0, 4, 5, 2, 3), (2, 3, 0, 1, 5, 4)))

# Each command leads one state further, and the last state stays.
LADDER = (8, 0, ((1, 2, 3, 4, 5, 6, 7, 7),))
RING = (3, 0, ((1, 2, 0),))
ALONE = (1, 0, ())
STOP = (3, 0, ((1, 1, 1), (2, 2, 2)))

# All permutations of five states are effects, 120 of them.
FIVE = (5, 0, ((1, 2, 3, 4, 0), (1, 0, 2, 3, 4)))

# Five effects more, each of which leads from every state to one.
MORE = (5, 0, (*FIVE[2], (0, 0, 0, 0, 0)))

# All permutations of six states: 720.
SIX = (6, 0, ((1, 2, 3, 4, 5, 0), (1, 0, 2, 3, 4, 5)))

# Every map of eight states to themselves is an effect, more than 16 million.
ALL_MAPS = (8, 0, ((1, 2, 3, 4, 5, 6, 7, 0), (1, 0, 2, 3, 4, 5, 6, 7), (0, 0, 2, 3, 4, 5, 6, 7)))

# As large as a system can be.
WIDEST = (8, 7, (tuple(range(8)), (0,) * 8, (7, 6, 5, 4, 3, 2, 1, 0), (1, 2, 3, 4, 5, 6, 7, 0)))

# In the place of a number; True and False equal numbers that would be right.
NO_NUMBERS = [True, False, None, "", "0", "1", [], [0], [1], (), (0,), -1, -2, -8]

# In the place of a tuple.
NO_TUPLES = [None, True, False, 0, 1, "", "0", "01", [], [0], [0, 1], {}, {0: 1}]

# In the place of a system.
NO_SYSTEMS = NO_TUPLES + [
    (), (2,), (2, 0), (2, 0, (), ()), [2, 0, ()], (0, 0, ()), (9, 0, ()), (2, 2, ()), (2, -1, ()), (True, 0, ()),
    (2, True, ()), (2, False, ()), (2, None, ()), (2, 0, None), (2, 0, []), (2, 0, [(0, 1)]), (2, 0, ([0, 1],)),
    (2, 0, ((0,),)), (2, 0, ((0, 2),)), (2, 0, ((0, 1, 0),)), (2, 0, ((0, True),)), (2, 0, ((0, -1),)),
    (2, 0, ((0, 1),) * 5)]


# In the place of a sequence of 0 to 16 commands, for whatever system has a command.
NO_SEQUENCES = NO_TUPLES + [(True,), (False,), (None,), ("0",), ((0,),), ([0],), (-1,), (4,), (0, 4), (0,) * 17]

# In the place of a text.
NO_TEXTS = [None, True, False, 0, 1, -1, 0.5, [], ["a"], (), ("a",), {}, {"a": 1}, b"", b"a", b"3 start 0", {"a"},
            "a\n", "\n", "\na", "3 start\n0", "ab\ncd", "?\n", "1234567\n", "a" * 301, " " * 301, "?" * 301,
            "1" * 1000, "\n" * 301]

# In the place of an operation of an editor, for whatever system has a command.
NO_OPERATIONS = NO_TUPLES + [
    (), ("execute",), ("execute", 0, 0), ["execute", 0], ("execute", True), ("execute", False), ("execute", None),
    ("execute", "0"), ("execute", -1), ("execute", 4), ("execute", (0,)), ("execute", [0]), ("execute", 0.0),
    ("revoke",), ("revoke", 0, 0), ["revoke", 0], ("revoke", True), ("revoke", False), ("revoke", None),
    ("revoke", "0"), ("revoke", -1), ("revoke", 16), ("revoke", (0,)), ("restore",), ("restore", 0, 0), ["restore", 0],
    ("restore", True), ("restore", False), ("restore", None), ("restore", "0"), ("restore", -1), ("restore", 16),
    ("restore", [0]),
    ("undo", 0), ("Execute", 0), ("executed", 0), ("", 0), (None, 0), (True, 0), (0, "execute"), (("execute",), 0),
    (["execute"], 0), (b"execute", 0), "execute", (("execute", 0),)]

# The words of the problems of tokens.
NO_TOKEN = "no token begins here"
LONG_NUMBER = "a number has at most 6 digits"


class ArgumentCase(unittest.TestCase):
    """A test case that asks which argument an error names."""

    def assert_bad(self, name, function, *arguments):
        with self.subTest(function=function.__name__, arguments=arguments):
            with self.assertRaises(BadValue) as caught:
                function(*arguments)
            self.assertEqual(caught.exception.name, name)
            self.assertIsInstance(caught.exception, UndoError)
            self.assertIsInstance(caught.exception, ValueError)

    def assert_checked(self, function, right, wrong):
        """Assert that each wrong argument is named, alone and with all later ones wrong too.

        The wrong ones are pairs of a name and values, for the first arguments; all later ones are a judge's value.
        """
        function(*right)
        for at, (name, values) in enumerate(wrong):
            later = [some[0] for _, some in wrong[at + 1:]] + [None] * (len(right) - len(wrong))
            for value in values:
                self.assert_bad(name, function, *right[:at], value, *right[at + 1:])
                self.assert_bad(name, function, *right[:at], value, *later)

    def assert_refused(self, judge, value):
        """Assert that the judge accepts the value, and refuses it with any part of it of another kind."""
        with self.subTest(value=value):
            self.assertIs(judge(value), True)
        for wrong in spoiled(value):
            with self.subTest(value=value, wrong=wrong):
                self.assertIs(judge(wrong), False)


class TextCase(ArgumentCase):
    """A test case that asks where a text has a problem, and which one."""

    def assert_text_error(self, column, words, function, *arguments):
        with self.subTest(function=function.__name__, arguments=arguments):
            with self.assertRaises(TextError) as caught:
                function(*arguments)
            self.assertEqual((caught.exception.column, caught.exception.words), (column, words))
            self.assertIsInstance(caught.exception, UndoError)


def spoiled(value):
    """Return the value with each part of it, and itself, replaced by what is of another kind or out of all bounds."""
    wrong = [True, False, "", "0", [], [0], {}, {0: 0}, -1, 200, 10 ** 30, "closed", ("closed",), 0.5]
    if value is not None:
        wrong.append(None)
    if isinstance(value, tuple):
        wrong += [0, 1, list(value), str(value), (value,), [value], dict(enumerate(value))]
    elif isinstance(value, str):
        wrong += [0, 1, value + "s", value[:-1], value.upper(), value.encode(), (value,), [value], list(value)]
    else:
        wrong += [(), (0,), (value,), [value], str(value), "a"]
    if isinstance(value, int):
        wrong.append(float(value))
    if isinstance(value, tuple):
        for at, item in enumerate(value):
            wrong += [value[:at] + (other,) + value[at + 1:] for other in spoiled(item)]
    return wrong


def small_systems():
    """Return all systems of at most 2 states and at most 2 commands."""
    systems = []
    for states in (1, 2):
        rows = list(itertools.product(range(states), repeat=states))
        for start in range(states):
            for many in (0, 1, 2):
                for commands in itertools.product(rows, repeat=many):
                    systems.append((states, start, commands))
    return systems


def mixed_systems(many):
    """Return so many systems of all sizes, the same ones each time."""
    number = 12345
    systems = []
    for _ in range(many):
        drawn = []
        for _ in range(35):
            number = (number * 1103515245 + 12345) % 2 ** 31
            drawn.append(number >> 16)
        states = drawn[0] % 8 + 1
        rows = [tuple(item % states for item in drawn[3 + 8 * k:3 + 8 * k + states]) for k in range(4)]
        systems.append((states, drawn[1] % states, tuple(rows[:drawn[2] % 5])))
    return systems


def sequences_by_length(system, longest):
    """Yield all sequences with at most so many commands, in order by length."""
    for length in range(longest + 1):
        yield from itertools.product(range(len(system[2])), repeat=length)


def place_after(system, state, sequence):
    """Return where the sequence leads, by the words of the document alone."""
    for command in sequence:
        state = system[2][command][state]
    return state


def states_reached(system, state):
    """Return the set of the states that the state reaches, found without sequences."""
    reached = {state}
    for _ in range(system[0]):
        reached |= {row[here] for row in system[2] for here in reached}
    return reached


def chosen_in(system):
    """Return the ascending list of the reachable states."""
    return sorted(states_reached(system, system[1]))


def effect_of(system, sequence):
    """Return the effect of the sequence, by the words of the document alone."""
    return tuple(place_after(system, state, sequence) for state in chosen_in(system))


def pairs_reached(system, one, other):
    """Return the set of the pairs to which a sequence leads from both states, found without sequences."""
    found = {(one, other)}
    while True:
        more = found | {(row[first], row[second]) for row in system[2] for first, second in found}
        if more == found:
            return found
        found = more


def keeps(system, state, command):
    """Tell whether the action is revocable."""
    found = pairs_reached(system, system[2][command][state], state)
    return len(found) == len({first for first, _ in found})


def seconds_reached(system, one, other):
    """Return the tuple of the ascending tuples of the second states beside each first one of the pairs."""
    found = pairs_reached(system, one, other)
    return tuple(tuple(sorted(second for first, second in found if first == state)) for state in range(system[0]))


def actions_in(system):
    """Return all actions of the system, in whatever states, as triples (state, command, state after it)."""
    return [(state, command, row[state]) for command, row in enumerate(system[2]) for state in range(system[0])]


def first_to_pairs(system, one, other, longest):
    """Return the dict of the first sequences to the pairs, of those with at most so many commands."""
    first = {}
    for sequence in sequences_by_length(system, longest):
        first.setdefault((place_after(system, one, sequence), place_after(system, other, sequence)), sequence)
    return first


def first_refutation(system, one, other, longest):
    """Return the first refutation with at most so many commands in a sequence, or None, by trying all sequences."""
    earlier = []
    for sequence in sequences_by_length(system, longest):
        pair = (place_after(system, one, sequence), place_after(system, other, sequence))
        for before, known in earlier:
            if known[0] == pair[0] and known[1] != pair[1]:
                return (before, sequence)
        if pair not in [known for _, known in earlier]:
            earlier.append((sequence, pair))
    return None


def longest_to_try(system):
    """Return a number of commands up to which all sequences can be tried."""
    return (0, 64, 7, 4, 4)[len(system[2])]


def renamed(system, names):
    """Return the system with the states renamed, the state k as names[k]."""
    back = [names.index(state) for state in range(system[0])]
    commands = tuple(tuple(names[row[state]] for state in back) for row in system[2])
    return (system[0], names[system[1]], commands)


def shuffled(many, number):
    """Return the numbers below many in an order that the number tells."""
    left = list(range(many))
    return [left.pop((number * 7 + 3 * len(left) + number // 5) % len(left)) for _ in range(many)]


def permutation_systems(many):
    """Return so many systems all commands of which are one to one, the same ones each time."""
    systems = []
    for number in range(many):
        states = number % 8 + 1
        rows = [tuple(shuffled(states, number * 31 + 17 * k)) for k in range(number // 8 % 5)]
        systems.append((states, number // 3 % states, tuple(rows)))
    return systems


# Permutations; what they generate has from 1 to 8 members.
GENERATORS = [
    (), ((0,),), ((0, 1, 2), (0, 1, 2)), ((1, 0),), ((1, 0), (0, 1), (1, 0)), ((1, 2, 0),), ((1, 2, 3, 0),),
    ((1, 2, 3, 0), (2, 3, 0, 1)), ((1, 0, 2, 3), (0, 1, 3, 2)), ((1, 2, 3, 4, 0),), ((1, 2, 0, 4, 3),),
    ((1, 0, 2), (0, 2, 1)), ((1, 2, 0), (1, 0, 2), (0, 1, 2), (2, 0, 1)), ((1, 2, 3, 4, 5, 6, 0),),
    ((1, 2, 3, 4, 5, 6, 7, 0),), ((1, 2, 3, 0), (0, 3, 2, 1)),
    ((1, 0, 2, 3, 4, 5), (0, 1, 3, 2, 4, 5), (0, 1, 2, 3, 5, 4)),
    ((1, 2, 3, 0, 4, 5), (0, 1, 2, 3, 5, 4)), ((1, 2, 3, 0, 5, 6, 7, 4), (4, 7, 6, 5, 2, 1, 0, 3))]


def group_system(generators):
    """Return the system whose states are the permutations that come of the generators, in the order of the tuples."""
    members = {tuple(range(len(generators[0]))) if generators else (0,)}
    while True:
        more = members | {tuple(row[k] for k in member) for row in generators for member in members}
        if more == members:
            break
        members = more
    order = sorted(members)
    commands = tuple(tuple(order.index(tuple(row[k] for k in member)) for member in order) for row in generators)
    return (len(order), 0, commands)


def with_more_states(system, number):
    """Return the system with as many states that are not reachable as it can have, which are led anywhere."""
    rows = []
    for k, row in enumerate(system[2]):
        rows.append(row + tuple((number * 5 + state * 3 + k) % 8 for state in range(system[0], 8)))
    return (8, system[1], tuple(rows))


def regular_systems():
    """Return systems all actions of which in reachable states are revocable: of groups of 1 to 8 members."""
    systems = []
    for number, generators in enumerate(GENERATORS):
        system = group_system(generators)
        names = shuffled(system[0], number)
        systems += [system, renamed(system, names)]
        wide = with_more_states(system, number)
        systems += [wide, renamed(wide, shuffled(8, number + 3))]
    return systems


def effects_reached(system, most):
    """Return the list of the first sequences of the effects, in order, or None if more than so many effects come."""
    chosen = sorted(states_reached(system, system[1]))
    told = [()]
    known = [tuple(chosen)]
    at = 0
    while at < len(told):
        for command in range(len(system[2])):
            effect = tuple(system[2][command][state] for state in known[at])
            if effect not in known:
                known.append(effect)
                told.append(told[at] + (command,))
        if len(known) > most:
            return None
        at += 1
    return told


def operations_of(system):
    """Return the list of all operations, possible or not."""
    changes = [(word, entry) for word in ("revoke", "restore") for entry in range(16)]
    return [("execute", command) for command in range(len(system[2]))] + changes


def entries_told(journal):
    """Return the list of the entries behind possible operations, a list of command and True or False each."""
    entries = []
    for word, number in journal:
        if word == "execute":
            entries.append([number, True])
        else:
            entries[number][1] = word == "restore"
    return entries


def state_told(system, entries):
    """Return the state to which the commands in effect lead from the start."""
    return place_after(system, system[1], [command for command, in_effect in entries if in_effect])


def why_not_told(entries, operation):
    """Return why the operation is not possible, or None, by the words of point 120 alone."""
    word, number = operation
    if word == "execute":
        return None if len(entries) < 16 else "full"
    if number not in range(len(entries)):
        return "missing"
    if word == "revoke":
        return "revoked" if not entries[number][1] else None
    return "effect" if entries[number][1] else None


def taken_out(system, command):
    """Return the system without the command."""
    return (system[0], system[1], system[2][:command] + system[2][command + 1:])


def scanned_by_words(text):
    """Return the tokens, or the column and the words of the first problem, by trying each kind at each place."""
    tokens = []
    at = 0
    while at < len(text):
        rest = text[at:]
        digits = "".join(itertools.takewhile(lambda character: character in list("0123456789"), rest))
        if rest.startswith(" "):
            at += 1
            continue
        if len(digits) > 6:
            return (at + 1, LONG_NUMBER)
        if digits:
            token = ("number", digits, at + 1)
        elif rest[0] in list("abcd"):
            token = ("letter", rest[0], at + 1)
        elif rest[0] == ";":
            token = ("sign", ";", at + 1)
        elif rest.startswith("start"):
            token = ("word", "start", at + 1)
        else:
            return (at + 1, NO_TOKEN)
        tokens.append(token)
        at += len(token[1])
    return tokens + [("end", "", len(text) + 1)]
