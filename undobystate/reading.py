"""Reading the texts of systems and sequences.

A grammar is a tuple of places. Each has the pairs of a kind of token that can come there and the place behind it, in
the order in which what can come is listed.
"""

from undobystate.errors import BadValue, TextError
from undobystate.scanning import LETTERS, check_text, scan
from undobystate.systems import MOST_COMMANDS, MOST_IN_SEQUENCE, MOST_STATES, check_system

# NUMBER "start" NUMBER { ";" LETTER { NUMBER } } END
SYSTEM_PLACES = (
    (("number", 1),),
    (("word", 2),),
    (("number", 3),),
    (("sign", 4), ("end", 6)),
    (("letter", 5),),
    (("number", 5), ("sign", 4), ("end", 6)),
    (),
)

# { LETTER } END
SEQUENCE_PLACES = (
    (("letter", 0), ("end", 1)),
    (),
)

WORDS = {"number": "a number", "letter": "a letter", "word": '"start"', "sign": '";"', "end": "the end"}


def can_come(place):
    """Return the list of the words for what can come at the place."""
    return [WORDS[kind] for kind, _ in place]


def expected(place):
    """Return the words of the problem that something else stands at the place than can come there."""
    words = can_come(place)
    if len(words) == 1:
        return "expected " + words[0]
    return "expected " + ", ".join(words[:-1]) + " or " + words[-1]


def place_behind(places, tokens):
    """Return the place of the grammar behind the tokens."""
    place = places[0]
    for found, _, column in tokens:
        behind = [places[number] for kind, number in place if kind == found]
        if not behind:
            raise TextError(column, expected(place))
        place = behind[0]
    return place


def next_tokens(text, kind):
    """Return the list of what can come behind the tokens of the text, which begins a text of this kind."""
    check_text(text)
    if kind not in ("system", "sequence"):
        raise BadValue("kind")
    tokens = scan(text)
    places = SYSTEM_PLACES if kind == "system" else SEQUENCE_PLACES
    return can_come(place_behind(places, tokens[:-1]))


def tokens_in_grammar(text, places):
    """Return the list of the tokens of the text, which follow the grammar."""
    tokens = scan(text)
    place_behind(places, tokens)
    return tokens


def read_states(token):
    """Return the number of states that the token tells."""
    states = int(token[1])
    if not 1 <= states <= MOST_STATES:
        raise TextError(token[2], "there are 1 to 8 states")
    return states


def read_state(token, states):
    """Return the state that the token tells, of so many states."""
    state = int(token[1])
    if state >= states:
        raise TextError(token[2], "there is no such state")
    return state


def check_letter(token, command):
    """Raise TextError if the token is not the letter of the command with this number."""
    if command == MOST_COMMANDS:
        raise TextError(token[2], "there are at most 4 commands")
    if token[1] != LETTERS[command]:
        raise TextError(token[2], "commands stand in their order")


def read_commands(tokens, states):
    """Return the list of the commands, a list of states each, that the tokens behind the start tell."""
    commands = []
    for token in tokens:
        if token[0] == "letter":
            check_letter(token, len(commands))
            commands.append([])
        elif token[0] == "number":
            if len(commands[-1]) == states:
                raise TextError(token[2], "this command has all of its states")
            commands[-1].append(read_state(token, states))
        elif commands and len(commands[-1]) < states:
            raise TextError(token[2], "a state is missing")
    return commands


def read_system(text):
    """Return the system that the text tells."""
    tokens = tokens_in_grammar(text, SYSTEM_PLACES)
    states = read_states(tokens[0])
    start = read_state(tokens[2], states)
    commands = read_commands(tokens[3:], states)
    return (states, start, tuple([tuple(row) for row in commands]))


def read_sequence(system, text):
    """Return the sequence for the system that the text tells."""
    check_system(system)
    letters = tokens_in_grammar(text, SEQUENCE_PLACES)[:-1]
    sequence = []
    for token in letters:
        if len(sequence) == MOST_IN_SEQUENCE:
            raise TextError(token[2], "there are at most 16 commands")
        command = LETTERS.index(token[1])
        if command >= len(system[2]):
            raise TextError(token[2], "there is no such command")
        sequence.append(command)
    return tuple(sequence)
