"""Points 2 to 8, 112 and 115 to 118, and the interface of undobystate/writing.py."""

import unittest

from cases import ALL_MAPS, ALONE, CARDS, EXAMPLE, FIVE, LADDER, NO_SEQUENCES, NO_SYSTEMS, PLACE, RING, STOP, WIDEST
from cases import ArgumentCase, mixed_systems, permutation_systems, regular_systems, sequences_by_length, small_systems
from undobystate.reading import read_sequence, read_system
from undobystate.scanning import scan
from undobystate.writing import sequence_text, system_text

SYSTEMS = [EXAMPLE, PLACE, CARDS, LADDER, RING, ALONE, STOP, WIDEST, FIVE, ALL_MAPS, (8, 3, ()), (1, 0, ((0,),) * 4)]
ALL = SYSTEMS + small_systems() + mixed_systems(80) + permutation_systems(80) + regular_systems()


def text_by_words(system):
    """Return the text of the system, by the words of point 115 alone."""
    text = str(system[0]) + " start " + str(system[1])
    for letter, row in zip("abcd", system[2]):
        text += ";" + " " + letter
        for state in row:
            text += " " + str(state)
    return text


class SystemTextTest(unittest.TestCase):

    def test_the_example(self):
        self.assertEqual(system_text((3, 0, ((1, 0, 2), (1, 1, 0)))), "3 start 0; a 1 0 2; b 1 1 0")

    def test_some_systems(self):
        self.assertEqual(system_text(ALONE), "1 start 0")
        self.assertEqual(system_text((8, 3, ())), "8 start 3")
        self.assertEqual(system_text((1, 0, ((0,),) * 4)), "1 start 0; a 0; b 0; c 0; d 0")
        self.assertEqual(system_text((2, 1, ((1, 0),))), "2 start 1; a 1 0")
        self.assertEqual(system_text(STOP), "3 start 0; a 1 1 1; b 2 2 2")

    def test_all_systems(self):
        for system in ALL:
            with self.subTest(system=system):
                self.assertEqual(system_text(system), text_by_words(system))

    def test_what_was_written_is_read_back(self):
        for system in ALL:
            with self.subTest(system=system):
                self.assertEqual(read_system(system_text(system)), system)

    def test_needless_blanks_change_nothing(self):
        for system in ALL:
            pieces = [characters for _, characters, _ in scan(system_text(system))]
            for between in (" ", "  "):
                with self.subTest(system=system, between=between):
                    self.assertEqual(read_system(between.join(pieces)), system)
                    self.assertEqual(system_text(read_system(between.join(pieces))), system_text(system))

    def test_needless_zeros_are_not_written(self):
        self.assertEqual(system_text(read_system("03start00;a0001 000 2;b 01 1 000000")), "3 start 0; a 1 0 2; b 1 1 0")


class SequenceTextTest(unittest.TestCase):

    def test_the_examples(self):
        self.assertEqual(sequence_text(EXAMPLE, (1, 0)), "ba")
        self.assertEqual(sequence_text(EXAMPLE, ()), "")

    def test_each_letter(self):
        self.assertEqual(sequence_text(WIDEST, (0, 1, 2, 3)), "abcd")
        self.assertEqual(sequence_text(WIDEST, (3, 2, 1, 0) * 4), "dcba" * 4)
        self.assertEqual([sequence_text(WIDEST, (command,)) for command in range(4)], ["a", "b", "c", "d"])

    def test_what_was_written_is_read_back(self):
        for system in SYSTEMS + mixed_systems(60):
            sequences = list(sequences_by_length(system, 4))[:150]
            if system[2]:
                sequences += [(len(system[2]) - 1,) * 16, (0,) * 15]
            for sequence in sequences:
                with self.subTest(system=system, sequence=sequence):
                    text = sequence_text(system, sequence)
                    self.assertEqual(text, "".join("abcd"[command] for command in sequence))
                    self.assertEqual(read_sequence(system, text), sequence)
                    self.assertEqual(read_sequence(system, "  ".join(text) + " "), sequence)


class WrongArgumentTest(ArgumentCase):

    def test_system_text(self):
        self.assert_checked(system_text, (PLACE,), [("system", NO_SYSTEMS)])

    def test_sequence_text(self):
        wrong = [("system", NO_SYSTEMS), ("sequence", NO_SEQUENCES)]
        self.assert_checked(sequence_text, (PLACE, (0, 1)), wrong)
        self.assert_bad("sequence", sequence_text, PLACE, (2,))
        self.assert_bad("sequence", sequence_text, ALONE, (0,))
        self.assert_bad("sequence", sequence_text, RING, (0,) * 17)
        self.assertEqual(sequence_text(RING, (0,) * 16), "a" * 16)


class SameCallTest(unittest.TestCase):

    def test_the_same_call_twice(self):
        first = [system_text(system) for system in SYSTEMS]
        self.assertEqual([system_text(system) for system in SYSTEMS], first)
        self.assertEqual({type(text) for text in first}, {str})
        self.assertEqual([sequence_text(RING, (0, 0)) for _ in range(2)], ["aa", "aa"])

    def test_arguments_by_their_names(self):
        self.assertEqual(system_text(system=ALONE), "1 start 0")
        self.assertEqual(sequence_text(system=RING, sequence=(0,)), "a")


if __name__ == "__main__":
    unittest.main()
