"""Points 2 to 8, 108 to 114 and 116 to 118, and the interface of undobystate/reading.py."""

import itertools
import re
import unittest

from cases import ALONE, CARDS, EXAMPLE, LONG_NUMBER, NO_SYSTEMS, NO_TEXTS, NO_TOKEN, PLACE, RING, WIDEST, TextCase
from cases import mixed_systems, permutation_systems, scanned_by_words, small_systems
from undobystate.reading import next_tokens, read_sequence, read_system
from undobystate.systems import is_sequence, is_system

STATES = "there are 1 to 8 states"
NO_STATE = "there is no such state"
COMMANDS = "there are at most 4 commands"
ORDER = "commands stand in their order"
ALL_STATES = "this command has all of its states"
MISSING = "a state is missing"
SEQUENCE = "there are at most 16 commands"
NO_COMMAND = "there is no such command"

# In the place of a kind of texts.
NO_KINDS = [None, True, False, 0, 1, "", "System", "systems", "SYSTEM", " system", "system ", "sequence\n", "text", "a",
            ["system"], ("system",), ["sequence"], (), [], {}, {"system": 1}, b"system", {"system"}]

# A letter stands for each kind of token: number, letter, word, sign, end.
KINDS = {"number": "N", "letter": "L", "word": "W", "sign": "S", "end": "E"}
LISTED = [("N", "a number"), ("L", "a letter"), ("W", '"start"'), ("S", '";"'), ("E", "the end")]
GRAMMARS = {"system": "NWN(SLN*)*E", "sequence": "L*E"}


def can_come(kind, kinds):
    """Return the list of what can come behind tokens of these kinds, by trying to go on to a whole text."""
    rests = ["", "E", "NE", "WNE", "LE"]
    return [words for one, words in LISTED if any(re.fullmatch(GRAMMARS[kind], kinds + one + rest) for rest in rests)]


def expected(words):
    """Return the words of point 111."""
    return "expected " + " or ".join([", ".join(words[:-1]), words[-1]] if words[1:] else words)


def grammar_problem(kind, tokens):
    """Return the column and the words of the first token that cannot come at its place, or None."""
    kinds = ""
    for found, _, column in tokens:
        words = can_come(kind, kinds)
        if dict(LISTED)[KINDS[found]] not in words:
            return (column, expected(words))
        kinds += KINDS[found]
    return None


def commands_told(tokens):
    """Return the list of the letter, the numbers and the sign or end behind them, of each command."""
    told = []
    for token in tokens:
        if token[0] == "letter":
            told.append([token, [], None])
        elif token[0] == "number":
            told[-1][1].append(token)
        elif told:
            told[-1][2] = token
    return told


def problems_of_commands(states, told):
    """Return the list of the problems of the commands, in the order in which point 113 lists those at one token."""
    problems = []
    for index, (letter, numbers, last) in enumerate(told):
        if index >= 4:
            problems.append((letter[2], COMMANDS))
        elif letter[1] != "abcd"[index]:
            problems.append((letter[2], ORDER))
        problems += [(number[2], ALL_STATES) for number in numbers[states:]]
        problems += [(number[2], NO_STATE) for number in numbers if int(number[1]) >= states]
        if len(numbers) < states:
            problems.append((last[2], MISSING))
    return problems


def system_by_words(text):
    """Return the system, or the column and the words of the first problem of the text, by the points alone."""
    tokens = scanned_by_words(text)
    problem = tokens if isinstance(tokens, tuple) else grammar_problem("system", tokens)
    if problem is not None:
        return problem
    states, start = int(tokens[0][1]), int(tokens[2][1])
    problems = [] if 1 <= states <= 8 else [(tokens[0][2], STATES)]
    problems += [] if start < states else [(tokens[2][2], NO_STATE)]
    told = commands_told(tokens[3:])
    problems += problems_of_commands(states, told)
    if problems:
        # The sorting keeps the order of problems at the same token.
        return sorted(problems, key=lambda one: one[0])[0]
    return (states, start, tuple(tuple(int(number[1]) for number in numbers) for _, numbers, _ in told))


class ReadingCase(TextCase):

    def assert_system_problem(self, text, column, words):
        self.assertEqual(system_by_words(text), (column, words), text)
        self.assert_text_error(column, words, read_system, text)

    def assert_sequence_problem(self, system, text, column, words):
        self.assert_text_error(column, words, read_sequence, system, text)


class NextTokensTest(ReadingCase):

    def test_the_examples(self):
        self.assertEqual(next_tokens("3", "system"), ['"start"'])
        self.assertEqual(next_tokens("3 start 0", "system"), ['";"', "the end"])
        self.assertEqual(next_tokens("3 start 0; a", "system"), ["a number", '";"', "the end"])
        self.assertEqual(next_tokens("", "sequence"), ["a letter", "the end"])

    def test_each_place_of_a_system(self):
        for text, right in [("", ["a number"]), ("   ", ["a number"]), ("3 start", ["a number"]),
                            ("3 start 0;", ["a letter"]), ("3 start 0; a 1", ["a number", '";"', "the end"]),
                            ("3 start 0; a 1 0 2", ["a number", '";"', "the end"]), ("3 start 0; a;", ["a letter"]),
                            ("3 start 0; a 1 0 2; ", ["a letter"]),
                            ("3 start 0; a 1 0 2; b", ["a number", '";"', "the end"])]:
            with self.subTest(text=text):
                self.assertEqual(next_tokens(text, "system"), right)

    def test_each_place_of_a_sequence(self):
        for text in ("", "a", "ab", "  d d  ", "abcd" * 5, "a" * 300):
            with self.subTest(text=text):
                self.assertEqual(next_tokens(text, "sequence"), ["a letter", "the end"])

    def test_the_grammar_alone_is_asked(self):
        for text, right in [("0", ['"start"']), ("999999", ['"start"']), ("1 start 5", ['";"', "the end"]),
                            ("2 start 0; d 7 7 7 7", ["a number", '";"', "the end"]),
                            ("2 start 0; a; a;", ["a letter"]),
                            ("1 start 0" + "; a 0" * 9, ["a number", '";"', "the end"])]:
            with self.subTest(text=text):
                self.assertEqual(next_tokens(text, "system"), right)

    def test_a_number_behind_a_number_is_another_one(self):
        self.assertEqual(next_tokens("3 start 0; a 1", "system"), next_tokens("3 start 0; a 1 ", "system"))

    def test_texts_that_are_no_beginnings(self):
        for text, column, words in [("start", 1, "expected a number"), ("3 3", 3, 'expected "start"'),
                                    ("3 start a", 9, "expected a number"),
                                    ("3 start 0 0", 11, 'expected ";" or the end'),
                                    ("3 start 0; 1", 12, "expected a letter"),
                                    ("3 start 0; a b", 14, 'expected a number, ";" or the end')]:
            self.assert_text_error(column, words, next_tokens, text, "system")
            self.assert_text_error(column, words, next_tokens, text + " start start", "system")
        for text, column in [("1", 1), (" ;", 2), ("a start", 3), ("ab;", 3), ("ab 0 1", 4)]:
            self.assert_text_error(column, "expected a letter or the end", next_tokens, text, "sequence")

    def test_problems_of_tokens_come_before_all_others(self):
        for kind in ("system", "sequence"):
            self.assert_text_error(1, NO_TOKEN, next_tokens, "?", kind)
            self.assert_text_error(7, NO_TOKEN, next_tokens, "; ; ; ?", kind)
            self.assert_text_error(3, LONG_NUMBER, next_tokens, "; 1234567 ?", kind)
            self.assert_text_error(300, NO_TOKEN, next_tokens, ";" * 299 + "e", kind)

    def test_all_short_texts(self):
        found = {True: 0, False: 0}
        for kind in ("system", "sequence"):
            for length in range(6):
                for parts in itertools.product(["1 ", "a", "start", ";", "  ", "9"], repeat=length):
                    text = "".join(parts)
                    tokens = scanned_by_words(text)[:-1]
                    problem = grammar_problem(kind, tokens)
                    found[problem is None] += 1
                    if problem is None:
                        with self.subTest(text=text, kind=kind):
                            right = can_come(kind, "".join(KINDS[token[0]] for token in tokens))
                            self.assertEqual(next_tokens(text, kind), right)
                    else:
                        self.assert_text_error(*problem, next_tokens, text, kind)
        self.assertGreater(min(found.values()), 100)

    def test_behind_the_end_of_a_whole_text(self):
        # The end of a text that ends too early is told as what can come, it is no problem.
        for text in ("", "3", "3 start", "3 start 0;"):
            self.assertNotIn("the end", next_tokens(text, "system"))
            self.assert_text_error(len(text) + 1, expected(next_tokens(text, "system")), read_system, text)


class ReadSystemTest(ReadingCase):

    def test_the_examples(self):
        self.assertEqual(read_system("3 start 0; a 1 0 2; b 1 1 0"), (3, 0, ((1, 0, 2), (1, 1, 0))))
        self.assertEqual(read_system("1 start 0"), (1, 0, ()))
        self.assert_system_problem("2 start 0; a 1; b 0 0", 15, MISSING)

    def test_ordinary_texts(self):
        self.assertEqual(read_system("2 start 1; a 1 0"), (2, 1, ((1, 0),)))
        self.assertEqual(read_system("8 start 7"), (8, 7, ()))
        self.assertEqual(read_system("1 start 0; a 0; b 0; c 0; d 0"), (1, 0, ((0,),) * 4))
        self.assertEqual(read_system("8 start 7; a 7 6 5 4 3 2 1 0"), (8, 7, ((7, 6, 5, 4, 3, 2, 1, 0),)))

    def test_needless_blanks_and_zeros(self):
        for text in ("3start0;a1 0 2;b1 1 0", "  3  start  0  ;  a  1  0  2  ;  b  1  1  0  ",
                     "003 start 000; a 01 0 2;b1 1 00", "3 start 0;a 000001 000000 000002;b 1 1 0",
                     "3start 0 ;a1 00 2 ;b01 1 0 "):
            with self.subTest(text=text):
                self.assertEqual(read_system(text), EXAMPLE)

    def test_300_characters_and_301(self):
        text = "3 start 0; a 1 0 2; b 1 1 0"
        for long in (text + " " * (300 - len(text)), " " * (300 - len(text)) + text):
            self.assertEqual(len(long), 300)
            self.assertEqual(read_system(long), EXAMPLE)
            self.assert_bad("text", read_system, long + " ")
            self.assert_bad("text", read_system, " " + long)

    def test_what_is_read_is_a_system(self):
        for text in ("1 start 0", "3 start 0; a 1 0 2; b 1 1 0", "8 start 7; a 7 6 5 4 3 2 1 0"):
            system = read_system(text)
            self.assertTrue(is_system(system))
            self.assertEqual({type(value) for value in (system, system[2], *system[2])}, {tuple})

    def test_problems_of_tokens_come_before_all_others(self):
        for text in ("9 start 9; d 9 ?", "start start ?", "0 ?", "3 start 0; a 1 0 2; b 1 1 0?", "?"):
            self.assert_system_problem(text, text.index("?") + 1, NO_TOKEN)
        for text in ("9 start 9; d 1234567 ?", "start 1234567", "1234567", "1234567 start 0"):
            self.assert_system_problem(text, text.index("1234567") + 1, LONG_NUMBER)
        self.assert_system_problem("3 start 0\t", 10, NO_TOKEN)

    def test_what_can_come_at_each_place(self):
        for text, column, words in [
                ("", 1, "expected a number"), ("  ", 3, "expected a number"), ("a", 1, "expected a number"),
                ("start", 1, "expected a number"), (";", 1, "expected a number"),
                ("3", 2, 'expected "start"'), ("3 ", 3, 'expected "start"'), ("3 3", 3, 'expected "start"'),
                ("3 a", 3, 'expected "start"'), ("3 ;", 3, 'expected "start"'),
                ("3 start", 8, "expected a number"), ("3 start ;", 9, "expected a number"),
                ("3 start start", 9, "expected a number"), ("3 start a", 9, "expected a number"),
                ("3 start 0 0", 11, 'expected ";" or the end'), ("3 start 0 a", 11, 'expected ";" or the end'),
                ("3 start 0 start", 11, 'expected ";" or the end'),
                ("3 start 0;", 11, "expected a letter"), ("3 start 0;;", 11, "expected a letter"),
                ("3 start 0; 1", 12, "expected a letter"), ("3 start 0; start", 12, "expected a letter"),
                ("3 start 0; a b", 14, 'expected a number, ";" or the end'),
                ("3 start 0; a start", 14, 'expected a number, ";" or the end'),
                ("3 start 0; a 1 b", 16, 'expected a number, ";" or the end'),
                ("3 start 0; a 1 0 2 start", 20, 'expected a number, ";" or the end'),
                ("3 start 0; a 1 0 2;", 20, "expected a letter"), ("3 start 0; a 1 0 2; ", 21, "expected a letter"),
                ("3 start 0; a 1 0 2; 0", 21, "expected a letter")]:
            self.assert_system_problem(text, column, words)

    def test_at_the_end_of_300_characters(self):
        self.assert_system_problem("3" + " " * 299, 301, 'expected "start"')
        self.assert_system_problem("3 start 0;" + " " * 290, 301, "expected a letter")
        self.assert_system_problem("3 start 0; a 0 0" + " " * 284, 301, MISSING)

    def test_the_grammar_comes_before_what_the_numbers_tell(self):
        self.assert_system_problem("9 start 9; d 9;", 16, "expected a letter")
        self.assert_system_problem("0 start", 8, "expected a number")
        self.assert_system_problem("2 start 5 5", 11, 'expected ";" or the end')
        self.assert_system_problem("2 start 0; a 5 start", 16, 'expected a number, ";" or the end')

    def test_the_number_of_states(self):
        for number in ("0", "9", "10", "000", "08000", "999999"):
            self.assert_system_problem(f"{number} start 0", 1, STATES)
            self.assert_system_problem(f"   {number} start 0; a 0", 4, STATES)
            # All others are behind it.
            self.assert_system_problem(f" {number} start 999; d 999; a", 2, STATES)
        for states in range(1, 9):
            self.assertEqual(read_system(f"{states} start 0"), (states, 0, ()))

    def test_a_start_that_is_no_state(self):
        for states in range(1, 9):
            self.assert_system_problem(f"{states} start {states}", 9, NO_STATE)
            self.assert_system_problem(f"{states} start 00{states + 1}; d 9; a", 9, NO_STATE)
            self.assertEqual(read_system(f"{states} start {states - 1}"), (states, states - 1, ()))

    def test_five_commands(self):
        for letter in "abcd":
            self.assert_system_problem(f"1 start 0; a 0; b 0; c 0; d 0; {letter} 0", 32, COMMANDS)
        self.assert_system_problem("1 start 0; a 0; b 0; c 0; d 0; a 5; b; c 0 0", 32, COMMANDS)

    def test_the_order_of_commands(self):
        letters = "abcd"
        for at in range(4):
            ahead = "2 start 0" + "".join(f"; {letter} 0 1" for letter in letters[:at])
            for letter in letters.replace(letters[at], ""):
                self.assert_system_problem(f"{ahead}; {letter} 0 1", len(ahead) + 3, ORDER)
                self.assert_system_problem(f"{ahead}; {letter} 9 9 9; {letter}", len(ahead) + 3, ORDER)

    def test_a_number_more(self):
        for states in range(1, 9):
            row = " 0" * states
            ahead = f"{states} start 0; a{row}"
            self.assert_system_problem(f"{ahead} 0", len(ahead) + 2, ALL_STATES)
            # It stands ahead of what the number tells.
            self.assert_system_problem(f"{ahead} {states}; d", len(ahead) + 2, ALL_STATES)
            ahead += f"; b{row}; c{row}; d{row}"
            self.assert_system_problem(f"{ahead} 0 0", len(ahead) + 2, ALL_STATES)

    def test_a_state_that_is_none(self):
        for states in range(1, 9):
            row = " 0" * (states - 1)
            self.assert_system_problem(f"{states} start 0; a {states}{row}", 14, NO_STATE)
            ahead = f"{states} start 0; a{row}"
            self.assert_system_problem(f"{ahead} 999999", len(ahead) + 2, NO_STATE)
            ahead = f"{states} start 0; a 0{row}; b 0{row}; c 0{row}; d{row}"
            self.assert_system_problem(f"{ahead} {states}", len(ahead) + 2, NO_STATE)
            self.assert_system_problem(f"{ahead} {states} 0", len(ahead) + 2, NO_STATE)

    def test_a_missing_state(self):
        for states in range(1, 9):
            for many in range(states):
                row = " 0" * many
                ahead = f"{states} start 0; a{row}"
                self.assert_system_problem(ahead, len(ahead) + 1, MISSING)
                self.assert_system_problem(f"{ahead}  ", len(ahead) + 3, MISSING)
                self.assert_system_problem(f"{ahead} ; d", len(ahead) + 2, MISSING)
                full = " 0" * states
                ahead = f"{states} start 0; a{full}; b{full}; c{full}; d{row}"
                self.assert_system_problem(ahead, len(ahead) + 1, MISSING)
                self.assert_system_problem(f"{ahead}; a", len(ahead) + 1, MISSING)

    def test_two_problems_in_one_text(self):
        for text, column, words in [
                ("0 start 0; a", 1, STATES), ("2 start 2; b 0 0", 9, NO_STATE), ("2 start 0; b 5 5 5", 12, ORDER),
                ("2 start 0; a 5 5 5", 14, NO_STATE), ("2 start 0; a 0 0 5", 18, ALL_STATES),
                ("2 start 0; a 0; c 0 0", 15, MISSING), ("2 start 0; a 0 5; c", 16, NO_STATE),
                ("2 start 0; a 0 0; b 0 0; c 0 0; d 0 0; a 5", 40, COMMANDS),
                ("2 start 0; a 0 0; b 0 0; c 0 0; d 0; a 5", 36, MISSING)]:
            self.assert_system_problem(text, column, words)

    def test_many_texts(self):
        found = {}
        begun = ("", "2 start 0", "2start1;a0 1;", "1 start 0;a0;b0;c0;d0", "1 start 0;a0;b0;c", "3 start 2; a 0 1")
        for ahead in begun:
            for length in range(5):
                for parts in itertools.product([";", "a ", "b", "0 ", " 2", "start", "d1"], repeat=length):
                    text = ahead + "".join(parts)
                    right = system_by_words(text)
                    words = right[1] if isinstance(right[1], str) else "none"
                    found[words] = found.get(words, 0) + 1
                    if words == "none":
                        with self.subTest(text=text):
                            self.assertEqual(read_system(text), right)
                    else:
                        self.assert_text_error(*right, read_system, text)
        self.assertEqual({words for words in found if not words.startswith("expected")},
                         {"none", STATES, NO_STATE, COMMANDS, ORDER, ALL_STATES, MISSING})


class ReadSequenceTest(ReadingCase):

    def test_the_example(self):
        self.assertEqual(read_sequence(EXAMPLE, "ab b"), (0, 1, 1))

    def test_ordinary_texts(self):
        self.assertEqual(read_sequence(WIDEST, "abcd"), (0, 1, 2, 3))
        self.assertEqual(read_sequence(WIDEST, "dcba"), (3, 2, 1, 0))
        self.assertEqual((read_sequence(EXAMPLE, ""), read_sequence(EXAMPLE, "   ")), ((), ()))
        self.assertEqual(read_sequence(RING, " a a  a "), (0, 0, 0))
        self.assertEqual(read_sequence(ALONE, ""), ())

    def test_16_letters_and_17(self):
        self.assertEqual(read_sequence(EXAMPLE, "ab" * 8), (0, 1) * 8)
        self.assertEqual(read_sequence(EXAMPLE, "a " * 16), (0,) * 16)
        self.assert_sequence_problem(EXAMPLE, "ab" * 8 + "a", 17, SEQUENCE)
        self.assert_sequence_problem(EXAMPLE, "a " * 17, 33, SEQUENCE)
        self.assert_sequence_problem(EXAMPLE, "a" * 300, 17, SEQUENCE)
        self.assert_sequence_problem(EXAMPLE, " " * 283 + "a" * 17, 300, SEQUENCE)

    def test_letters_of_commands_that_the_system_does_not_have(self):
        for many in range(5):
            system = (1, 0, ((0,),) * many)
            for command, letter in enumerate("abcd"):
                if command < many:
                    self.assertEqual(read_sequence(system, letter), (command,))
                    self.assertEqual(read_sequence(system, letter * 16), (command,) * 16)
                    continue
                self.assert_sequence_problem(system, letter, 1, NO_COMMAND)
                self.assert_sequence_problem(system, "  " + letter + letter, 3, NO_COMMAND)
                if many:
                    self.assert_sequence_problem(system, "a" * 15 + letter, 16, NO_COMMAND)

    def test_two_problems_in_one_text(self):
        self.assert_sequence_problem(EXAMPLE, "acad", 2, NO_COMMAND)
        self.assert_sequence_problem(EXAMPLE, "a" * 16 + "d", 17, SEQUENCE)
        self.assert_sequence_problem(EXAMPLE, "a" * 15 + "da", 16, NO_COMMAND)
        self.assert_sequence_problem(EXAMPLE, "a" * 17 + "d", 17, SEQUENCE)

    def test_the_grammar_comes_before_what_the_letters_tell(self):
        for text, column in [("1", 1), ("a1", 2), ("a;", 2), ("start", 1), ("  a  start", 6), ("d;", 2),
                             ("a" * 17 + "1", 18), ("d" * 20 + " ; ;", 22), ("a" * 299 + "0", 300)]:
            self.assert_sequence_problem(EXAMPLE, text, column, "expected a letter or the end")

    def test_problems_of_tokens_come_before_all_others(self):
        for text in ("?", "a?", "; ; ?", "d" * 20 + "?", "1 ?", "a" * 299 + "?"):
            self.assert_sequence_problem(EXAMPLE, text, text.index("?") + 1, NO_TOKEN)
        self.assert_sequence_problem(EXAMPLE, "d ; 1234567 ?", 5, LONG_NUMBER)
        self.assert_sequence_problem(EXAMPLE, "e", 1, NO_TOKEN)

    def test_300_characters_and_301(self):
        self.assertEqual(read_sequence(EXAMPLE, "ab" + " " * 298), (0, 1))
        self.assertEqual(read_sequence(EXAMPLE, " " * 298 + "ab"), (0, 1))
        self.assert_bad("text", read_sequence, EXAMPLE, "ab" + " " * 299)

    def test_what_is_read_is_a_sequence(self):
        for system in small_systems() + mixed_systems(40) + permutation_systems(40):
            letters = "abcd"[:len(system[2])]
            for text in (letters, letters[::-1], " ".join(letters * 3), ""):
                told = read_sequence(system, text)
                with self.subTest(system=system, text=text):
                    self.assertTrue(is_sequence(system, told))
                    self.assertIs(type(told), tuple)
                    self.assertEqual(told, tuple("abcd".index(letter) for letter in text.replace(" ", "")))


class WrongArgumentTest(ReadingCase):

    def test_next_tokens(self):
        self.assert_checked(next_tokens, ("3", "system"), [("text", NO_TEXTS), ("kind", NO_KINDS)])
        # The kind is asked before the text is read.
        for text in ("?", "1234567", ";", "start"):
            for kind in NO_KINDS:
                self.assert_bad("kind", next_tokens, text, kind)

    def test_read_system(self):
        self.assert_checked(read_system, ("1 start 0",), [("text", NO_TEXTS)])

    def test_read_sequence(self):
        self.assert_checked(read_sequence, (PLACE, "a"), [("system", NO_SYSTEMS), ("text", NO_TEXTS)])
        for text in ("?", ";", "d", "a" * 17):
            self.assert_bad("system", read_sequence, list(PLACE), text)


class SameCallTest(ReadingCase):

    def test_the_same_call_twice(self):
        for _ in range(2):
            self.assertEqual(read_system("2 start 1; a 1 0"), (2, 1, ((1, 0),)))
            self.assertEqual(read_sequence(CARDS, "ab"), (0, 1))
            self.assertEqual(next_tokens("3 start 0", "system"), ['";"', "the end"])
            self.assert_system_problem("2 start 0; a 1; b 0 0", 15, MISSING)

    def test_a_new_list_with_each_call(self):
        told = next_tokens("3 start 0; a", "system")
        self.assertIs(type(told), list)
        told.clear()
        told.append("other")
        self.assertEqual(next_tokens("3 start 0; a", "system"), ["a number", '";"', "the end"])
        self.assert_system_problem("3 start 0; a b", 14, 'expected a number, ";" or the end')
        self.assertIsNot(next_tokens("", "sequence"), next_tokens("", "sequence"))

    def test_arguments_by_their_names(self):
        self.assertEqual(read_system(text="1 start 0"), ALONE)
        self.assertEqual(read_sequence(system=RING, text="aa"), (0, 0))
        self.assertEqual(next_tokens(text="", kind="sequence"), ["a letter", "the end"])


if __name__ == "__main__":
    unittest.main()
