"""Points [41], [42], [43] and [46]: words, semigroups, filters and machines, written as texts."""

import itertools
import random
import unittest

from partfilter.errors import (
    InvalidFilter, InvalidLetter, InvalidLine, InvalidMachine, InvalidSemigroup, WordTooLong,
)
from partfilter.notation import (
    format_filter, format_machine, format_semigroup, format_word, parse_filter, parse_machine,
    parse_semigroup, parse_word,
)
from samples import repeated, some_filters, words_up_to
from tables import ADD2, ADD3, LEFT, ONE, semigroups_up_to, some_semigroups

# What is not an integer as it should be written, with a space ahead where it stands behind a word.
NO_NUMBERS = [
    "00", "01", "007", "000", "-1", "-0", "+1", "1000", "0000", "1.0", "1,", "a", "1a", "a1", "0x1", "1_0",
    "", " ", " 1", "1 ", "1  1", "1 01", "01 1", "#", "~", "1e1", "_", "row", "letters",
]


class Case(unittest.TestCase):
    def check_line(self, parse, text, number):
        with self.subTest(text=text):
            with self.assertRaises(InvalidLine) as caught:
                parse(text)
            self.assertEqual(caught.exception.number, number)


class Words(unittest.TestCase):
    def test_format(self):
        self.assertEqual(format_word([]), "")
        self.assertEqual(format_word([0]), "0")
        self.assertEqual(format_word([2, 0, 1, 1]), "2011")
        self.assertEqual(format_word([1] * 300), "1" * 300)

    def test_parse(self):
        self.assertEqual(parse_word(1, ""), [])
        self.assertEqual(parse_word(1, "000"), [0, 0, 0])
        self.assertEqual(parse_word(3, "2011"), [2, 0, 1, 1])
        self.assertIsInstance(parse_word(3, "2011"), list)

    def test_there_and_back(self):
        for word in words_up_to(3, 4):
            self.assertEqual(parse_word(3, format_word(word)), word)

    def test_60_and_61_characters(self):
        for letters in (1, 2, 3):
            self.assertEqual(parse_word(letters, "0" * 60), [0] * 60)
            for many in (61, 62, 100):
                with self.assertRaises(WordTooLong):
                    parse_word(letters, "0" * many)

    def test_a_character_that_is_no_digit_of_a_letter(self):
        for text, place in [
            ("a", 0), (" ", 0), ("0 ", 1), (" 0", 0), ("01-", 2), ("0\n", 1), ("\n", 0), ("3", 0), ("0123", 3),
            ("9", 0), ("00~", 2), ("0!1", 1), ("0x", 1), ("4,5", 0), ("01, 2", 2),
        ]:
            with self.subTest(text=text):
                with self.assertRaises(InvalidLetter) as caught:
                    parse_word(3, text)
                self.assertEqual(caught.exception.place, place)

    def test_it_at_each_place_also_of_a_text_that_is_too_long(self):
        for many in (1, 7, 60, 61, 90):
            for place in range(many):
                for wrong in "3a \n-":
                    text = "0" * place + wrong + "2" * (many - place - 1)
                    with self.assertRaises(InvalidLetter) as caught:
                        parse_word(3, text)
                    self.assertEqual(caught.exception.place, place)

    def test_digits_that_are_not_below_the_number_of_letters(self):
        for letters in (1, 2, 3):
            for digit in range(10):
                text = f"0{digit}"
                if digit < letters:
                    self.assertEqual(parse_word(letters, text), [0, digit])
                else:
                    with self.assertRaises(InvalidLetter) as caught:
                        parse_word(letters, text)
                    self.assertEqual(caught.exception.place, 1)

    def test_the_first_of_several(self):
        with self.assertRaises(InvalidLetter) as caught:
            parse_word(2, "0121a")
        self.assertEqual(caught.exception.place, 2)


class Semigroups(Case):
    def test_format(self):
        self.assertEqual(format_semigroup((ONE, (0,))), "letters 0\nrow 0")
        self.assertEqual(format_semigroup((ADD2, (1, 0, 1))), "letters 1 0 1\nrow 0 1\nrow 1 0")
        self.assertEqual(format_semigroup((ADD3, (2,))), "letters 2\nrow 0 1 2\nrow 1 2 0\nrow 2 0 1")

    def test_parse(self):
        self.assertEqual(parse_semigroup("letters 0\nrow 0"), (ONE, (0,)))
        self.assertEqual(parse_semigroup("letters 1 0 1\nrow 0 1\nrow 1 0"), (ADD2, (1, 0, 1)))
        found = parse_semigroup("letters 0\nrow 0 0\nrow 1 1")
        self.assertEqual(found, (LEFT, (0,)))
        self.assertEqual([type(part) for part in (found, found[0], found[1], found[0][0])], [tuple] * 4)

    def test_there_and_back(self):
        for semigroup in list(semigroups_up_to(2)) + list(some_semigroups(200, 42)):
            self.assertEqual(parse_semigroup(format_semigroup(semigroup)), semigroup)

    def test_a_line_that_does_not_start_with_its_word(self):
        for text, number in [
            ("", 0), ("row 0\nletters 0", 0), (" letters 0\nrow 0", 0), ("letter 0\nrow 0", 0),
            ("letters0\nrow 0", 0), ("Letters 0\nrow 0", 0), ("lettersx 0\nrow 0", 0), ("0\nrow 0", 0),
            ("letters 0\nletters 0", 1), ("letters 0\nrows 0", 1), ("letters 0\n row 0", 1),
            ("letters 0\nrow0", 1), ("letters 0\nRow 0", 1), ("letters 0\n0", 1), ("letters 0\nlasts 0", 1),
            ("letters 0\nrow 0 0\nletters 0 0", 2), ("letters 0\nrow 0 0\nro 0 0", 2),
            ("letters 0\n\nrow 0", 1), ("\nletters 0\nrow 0", 0), ("letters 0\nrow 0\n", 2),
            ("letters 0\nrow 0\n\n", 2), ("letters 0\n", 1), ("\n", 0), (" ", 0), ("letters 0\nrow 0\n ", 2),
        ]:
            self.check_line(parse_semigroup, text, number)

    def test_what_is_no_number(self):
        for wrong in NO_NUMBERS:
            self.check_line(parse_semigroup, f"letters {wrong}\nrow 0", 0)
            self.check_line(parse_semigroup, f"letters 0 {wrong}\nrow 0", 0)
            self.check_line(parse_semigroup, f"letters 0\nrow {wrong}", 1)
            self.check_line(parse_semigroup, f"letters 0\nrow 0 1\nrow 1 {wrong}\nrow", 2)

    def test_spaces(self):
        for text, number in [
            ("letters  0\nrow 0", 0), ("letters 0 \nrow 0", 0), ("letters 0  0\nrow 0", 0), ("letters \nrow 0", 0),
            ("letters 0\nrow  0", 1), ("letters 0\nrow 0 ", 1), ("letters 0\nrow ", 1),
            ("letters 0\nrow 0 0\nrow 0  0", 2), ("letters 0\nrow 0 0\nrow 0 0 ", 2),
        ]:
            self.check_line(parse_semigroup, text, number)

    def test_the_first_of_several_lines(self):
        self.check_line(parse_semigroup, "letters 0\nrow 00\nrow x\nletters", 1)
        self.check_line(parse_semigroup, "letters 00\nrow 00", 0)

    def test_numbers_of_up_to_three_digits(self):
        for number in (0, 1, 9, 10, 99, 100, 999):
            with self.assertRaises(InvalidSemigroup) as caught:
                parse_semigroup(f"letters 0\nrow 0 {number}")
            self.assertEqual(caught.exception.word, "table")

    def test_faults_behind_the_lines(self):
        for text, word in [
            ("letters", "table"), ("letters\nrow", "table"), ("letters 0\nrow", "table"), ("letters 0", "table"),
            ("letters 0\nrow 0 0", "table"), ("letters 0\nrow 0\nrow 0", "table"), ("letters 0\nrow 1", "table"),
            ("letters 5\nrow 0 999\nrow 0 0", "table"), ("letters 0" + "\nrow 0 0 0 0 0" * 5, "table"),
            ("letters\nrow 0", "letters"), ("letters 0 0 0 0\nrow 0", "letters"), ("letters 1\nrow 0", "letters"),
            ("letters 2\nrow 1 0\nrow 0 0", "letters"), ("letters 1\nrow 1 0\nrow 0 0", "associative"),
        ]:
            with self.subTest(text=text):
                with self.assertRaises(InvalidSemigroup) as caught:
                    parse_semigroup(text)
                self.assertEqual(caught.exception.word, word)

    def test_lines_come_ahead_of_faults(self):
        self.check_line(parse_semigroup, "letters 9\nrow 0 5\nrow 1 x", 2)
        self.check_line(parse_semigroup, "letters\nrow\n", 2)


class Filters(Case):
    lines = (("none",), ("empty",), ("letter", 2), ("or", 0, 1), ("not", 3), ("behind", 2, 4))
    text = "none\nempty\nletter 2\nor 0 1\nnot 3\nbehind 2 4"

    def test_format(self):
        self.assertEqual(format_filter((("none",),)), "none")
        self.assertEqual(format_filter(self.lines), self.text)
        self.assertEqual(format_filter(repeated(12))[-22:], "behind 0 9\nbehind 0 10")

    def test_parse(self):
        self.assertEqual(parse_filter("empty"), (("empty",),))
        found = parse_filter(self.text)
        self.assertEqual(found, self.lines)
        self.assertEqual({type(line) for line in found} | {type(found)}, {tuple})

    def test_there_and_back(self):
        for lines in list(some_filters(200, 12, 43)) + [repeated(300)]:
            self.assertEqual(parse_filter(format_filter(lines)), lines)

    def test_how_many_numbers(self):
        counts = {"none": 0, "empty": 0, "letter": 1, "not": 1, "or": 2, "behind": 2}
        for kind, count in counts.items():
            for many in range(5):
                text = "none\n" + " ".join([kind] + ["0"] * many)
                if many == count:
                    self.assertEqual(parse_filter(text), (("none",), (kind,) + (0,) * many))
                else:
                    self.check_line(parse_filter, text, 1)

    def test_none_of_the_six_strings(self):
        for text, number in [
            ("", 0), ("all", 0), ("None", 0), ("no", 0), ("and 0 0", 0), (" none", 0), ("none ", 0), ("0", 0),
            ("letter0", 0), ("letters 0", 0), ("row", 0), ("none\n", 1), ("none\n\nnone", 1), ("\nnone", 0),
            ("none\nnot 0\n", 2), ("none\nxor 0 0", 1), ("none\nOR 0 0", 1), ("none\n not 0", 1), ("none\n ", 1),
        ]:
            self.check_line(parse_filter, text, number)

    def test_what_is_no_number(self):
        for wrong in NO_NUMBERS:
            self.check_line(parse_filter, f"none\nletter {wrong}", 1)
            self.check_line(parse_filter, f"letter {wrong}", 0)
            self.check_line(parse_filter, f"none\nnot 0\nor 0 {wrong}", 2)
            self.check_line(parse_filter, f"none\nnot {wrong}\nor 0 0", 1)
            self.check_line(parse_filter, f"none\nbehind {wrong} 0", 1)

    def test_spaces(self):
        for line in ("not  0", "not 0 ", " not 0", "or 0  0", "or 0 0 ", "or  0 0", "none ", "not"):
            self.check_line(parse_filter, f"none\n{line}", 1)

    def test_faults_behind_the_lines(self):
        for text, number in [
            ("not 0", 0), ("letter 3", 0), ("letter 999", 0), ("none\nor 0 1", 1), ("none\nnot 0\nbehind 2 0", 2),
            ("none\nnot 5\nletter 7", 1), ("\n".join(["none"] * 301), 300), ("\n".join(["none"] * 305), 300),
            ("\n".join(["none"] * 299 + ["not 299"] + ["none"]), 299),
        ]:
            with self.subTest(text=text[:30]):
                with self.assertRaises(InvalidFilter) as caught:
                    parse_filter(text)
                self.assertEqual(caught.exception.number, number)

    def test_lines_come_ahead_of_faults(self):
        self.check_line(parse_filter, "not 0\nnone 0", 1)
        self.check_line(parse_filter, "letter 7\nnone\nnot 00", 2)
        self.check_line(parse_filter, "\n".join(["none"] * 305 + ["all"]), 305)


def some_machines(count, seed):
    chosen = random.Random(seed)
    for _ in range(count):
        letters, states = chosen.randint(1, 3), chosen.randint(1, 4)
        rows = tuple(tuple(chosen.randrange(states) for _ in range(letters)) for _ in range(states))
        lasts = tuple(state for state in range(states) if chosen.random() < 0.5)
        yield letters, rows, chosen.randrange(states), lasts


class Machines(Case):
    machine = (2, ((0, 1), (1, 0)), 1, (0, 1))
    text = "letters 2\nrow 0 1\nrow 1 0\nfirst 1\nlasts 0 1"

    def test_format(self):
        self.assertEqual(format_machine(self.machine), self.text)
        self.assertEqual(format_machine((1, ((0,),), 0, ())), "letters 1\nrow 0\nfirst 0\nlasts")

    def test_parse(self):
        found = parse_machine(self.text)
        self.assertEqual(found, self.machine)
        self.assertEqual([type(part) for part in found], [int, tuple, int, tuple])
        self.assertEqual([type(part) for part in (found, found[1][0])], [tuple] * 2)
        self.assertEqual(parse_machine("letters 1\nrow 0\nfirst 0\nlasts"), (1, ((0,),), 0, ()))

    def test_there_and_back(self):
        for machine in some_machines(200, 46):
            self.assertEqual(parse_machine(format_machine(machine)), machine)

    def test_fewer_than_three_lines(self):
        for text, number in [
            ("", 1), ("letters 1", 1), ("x", 1), ("\n", 2), ("letters 1\nlasts", 2), ("first 0\nlasts", 2),
            ("letters 00\nrow", 2), (" \n ", 2),
        ]:
            self.check_line(parse_machine, text, number)

    def test_exactly_three_lines(self):
        with self.assertRaises(InvalidMachine) as caught:
            parse_machine("letters 1\nfirst 0\nlasts")
        self.assertEqual(caught.exception.word, "rows")
        with self.assertRaises(InvalidMachine) as caught:
            parse_machine("letters 0\nfirst 0\nlasts")
        self.assertEqual(caught.exception.word, "letters")
        for text, number in [
            ("\n\n", 0), ("letters 1\nrow 0\nlasts", 1), ("letters 1\nfirst 0\nrow 0", 2), ("row 0\nfirst 0\nlasts", 0),
            ("letters 1\nfirst\nlasts", 1), ("letters\nfirst 0\nlasts", 0), ("letters 1\nfirst 0\nlasts ", 2),
        ]:
            self.check_line(parse_machine, text, number)

    def test_a_line_that_does_not_start_with_its_word(self):
        right = self.text.split("\n")
        for at in range(5):
            for wrong in ("", " ", "rows 0 1", "0 1", "last 0", "none", "letter 2", "First 1", " " + right[at]):
                self.check_line(parse_machine, "\n".join(right[:at] + [wrong] + right[at + 1:]), at)
        for text, number in [
            ("\n".join(right[1:]), 0), ("\n".join(right[:-1]), 2), ("\n".join(right[:3] + right[4:]), 2),
            ("\n".join(right + ["lasts"]), 3), ("\n".join(right + [""]), 3), ("\n".join([""] + right), 0),
            ("\n".join(right[:2] + [""] + right[2:]), 2), ("\n".join(right[:4] + ["first 0", "lasts"]), 3),
        ]:
            self.check_line(parse_machine, text, number)

    def test_letters_and_first_with_none_and_with_two(self):
        for at, name in ((0, "letters"), (3, "first")):
            right = self.text.split("\n")
            for numbers in ("", " 1 1", " 1 0 1", " "):
                right[at] = name + numbers
                self.check_line(parse_machine, "\n".join(right), at)

    def test_the_first_of_several_lines(self):
        self.check_line(parse_machine, "letters\nrow x\nfirst\nlasts 00", 0)
        self.check_line(parse_machine, "letters 1\nrow x\nfirst\nlasts 00", 1)
        self.check_line(parse_machine, "letters 1\nrow 0\nfirst\nlasts 00", 2)
        self.check_line(parse_machine, "letters 1\nrow 0\nfirst 0\nlasts 00", 3)

    def test_what_is_no_number(self):
        for wrong in NO_NUMBERS:
            self.check_line(parse_machine, f"letters {wrong}\nrow 0\nfirst 0\nlasts", 0)
            self.check_line(parse_machine, f"letters 1\nrow {wrong}\nfirst 0\nlasts", 1)
            self.check_line(parse_machine, f"letters 1\nrow 0 {wrong}\nfirst 0\nlasts", 1)
            self.check_line(parse_machine, f"letters 1\nrow 0\nfirst {wrong}\nlasts", 2)
            self.check_line(parse_machine, f"letters 1\nrow 0\nfirst 0\nlasts {wrong}", 3)
            self.check_line(parse_machine, f"letters 1\nrow 0\nfirst 0\nlasts 0 {wrong}", 3)

    def test_faults_behind_the_lines(self):
        for text, word in [
            ("letters 0\nrow\nfirst 0\nlasts", "letters"), ("letters 4\nrow 0 0 0 0\nfirst 0\nlasts", "letters"),
            ("letters 999\nrow\nfirst 9\nlasts 9", "letters"), ("letters 1\nrow\nfirst 0\nlasts", "rows"),
            ("letters 1\nrow 0 0\nfirst 0\nlasts", "rows"), ("letters 1\nrow 1\nfirst 3\nlasts", "rows"),
            ("letters 1" + "\nrow 0" * 5 + "\nfirst 0\nlasts", "rows"), ("letters 1\nrow 0\nfirst 1\nlasts 1", "first"),
            ("letters 1\nrow 0\nfirst 0\nlasts 1", "lasts"), ("letters 1\nrow 0\nrow 1\nfirst 0\nlasts 1 0", "lasts"),
            ("letters 1\nrow 0\nfirst 0\nlasts 0 0", "lasts"),
        ]:
            with self.subTest(text=text):
                with self.assertRaises(InvalidMachine) as caught:
                    parse_machine(text)
                self.assertEqual(caught.exception.word, word)

    def test_lines_come_ahead_of_faults(self):
        self.check_line(parse_machine, "letters 7\nrow 9\nfirst 9\nlasts 1 x", 3)
        self.check_line(parse_machine, "letters 7\nrow 9\nfirst\nlasts 1 0", 2)


class Characters(Case):
    def test_each_character_alone_and_behind_a_word(self):
        # A line may end after its first word, but with nothing else than a number behind it.
        for code in itertools.chain([10], range(32, 127)):
            character = chr(code)
            number = 1 if character == "\n" else 0
            self.check_line(parse_semigroup, f"letters{character}", number)
            self.check_line(parse_semigroup, character, 0)
            if not character.isdigit():
                self.check_line(parse_semigroup, f"letters {character}", 0)
                self.check_line(parse_filter, f"letter {character}", 0)
            self.check_line(parse_filter, f"none{character}", number)


if __name__ == "__main__":
    unittest.main()
