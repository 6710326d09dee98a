"""The tokens of texts of systems and sequences.

A token is a tuple (kind, characters, column). Columns are counted from 1.
"""

from undobystate.errors import BadValue, TextError

MOST_CHARACTERS = 300
MOST_DIGITS = 6

# Not isdigit: it takes digits of other scripts, too.
DIGITS = "0123456789"
# Each letter stands at the number of its command.
LETTERS = "abcd"
WORD = "start"


def check_text(text):
    """Raise BadValue if the argument is not a text."""
    if not isinstance(text, str) or len(text) > MOST_CHARACTERS or "\n" in text:
        raise BadValue("text")


def digits_at(text, at):
    """Return the digits that begin at the index, as many as there are."""
    end = at
    while end < len(text) and text[end] in DIGITS:
        end += 1
    return text[at:end]


def token_at(text, at):
    """Return the token that begins at the index, where no blank is."""
    column = at + 1
    character = text[at]
    if character in DIGITS:
        digits = digits_at(text, at)
        if len(digits) > MOST_DIGITS:
            raise TextError(column, "a number has at most 6 digits")
        return ("number", digits, column)
    if character in LETTERS:
        return ("letter", character, column)
    if character == ";":
        return ("sign", character, column)
    if text[at:at + len(WORD)] == WORD:
        return ("word", WORD, column)
    raise TextError(column, "no token begins here")


def scan(text):
    """Return the list of the tokens of the text, the end as the last one."""
    check_text(text)
    tokens = []
    at = 0
    while at < len(text):
        if text[at] == " ":
            at += 1
        else:
            token = token_at(text, at)
            tokens.append(token)
            at += len(token[1])
    tokens.append(("end", "", len(text) + 1))
    return tokens
