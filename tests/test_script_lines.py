"""The form of scripts: point 19."""

import unittest
from itertools import product

from squaremark.errors import ExecutionFailed, ScriptError, StepLimitExceeded
from squaremark.scripts import flatten, placements, run_script
from tests import interpreter

FUNCTIONS = (run_script, placements, flatten)
NAMES = ["a", "z", "ab", "zzzzzzzz", "abcdefgh", "text", "end", "sheet", "on", "repeat"]
NOT_NAMES = [
    "", "A", "aB", "Ab", "a1", "1a", "0", "7", "a_b", "a-b", "abcdefghi", "z" * 20, "a.", "\ta", "a\t", "\u00e9",
    "a\u00df", "\u0430", "{", "`", "\r", "a\r", "\u2028",
]
NOT_INTEGERS = [
    "", "a", "-", "--1", "+1", "+0", "-0", "-00", "00", "01", "07", "010", "-01", "-012", "1a", "a1", "1.0", "1e1",
    "0x1", "1_0", "1,0", "-1-", "1-", "\u0661", "\uff11", "\u00b2", "1\t", "\t1", "1\r", "None", "True", "1000",
    "0001", "0010", "-1000", "12345678901234567890", "9" * 5000, "-" + "9" * 5000,
]
# The values of each place in a line: the least, the greatest, and some between them.
LIMITS = {
    "sheet {} 20": (10, 60), "sheet 20 {}": (10, 60), "strength {}": (1, 3), "at {} 5": (0, 60), "at 5 {}": (0, 60),
    "move {} 5": (-99, 99), "move -5 {}": (-99, 99), "place a {} 0": (0, 7), "place a 0 {}": (0, 7),
    "repeat {}": (0, 99),
}
VALID = [
    "strength 1", "spare on", "spare off", "at 0 60", "move -99 99", "place a 0 7", "text a", "text a ", "text a b",
]


class Lines(unittest.TestCase):
    def check_invalid(self, source, row):
        for function in FUNCTIONS:
            with self.subTest(source=source, function=function.__name__):
                with self.assertRaises(ScriptError) as caught:
                    function(source)
                self.assertEqual(caught.exception.row, row)

    def check_valid(self, source):
        for function in FUNCTIONS:
            with self.subTest(source=source, function=function.__name__):
                function(source)

    def check_line(self, line, valid):
        """A line as the first one, or in a loop that is not executed and behind it."""
        if line.startswith("sheet"):
            check, arguments = (self.check_valid, ()) if valid else (self.check_invalid, (0,))
            check(line, *arguments)
            check(line + "\nat 5 5", *arguments)
            return
        before = "sheet 60 60\nrepeat 0\nat 1 1\n"
        ends = "\nend\nend" if line.startswith("repeat") else "\nend"
        if valid:
            self.check_valid(before + line + ends)
            self.check_valid(before + "repeat 3\n" + line + ends + "\nend")
        else:
            self.check_invalid(before + line + ends, 3)
            self.check_invalid("sheet 60 60\n" + line, 1)
            self.check_invalid("sheet 60 60\n" + line + "\nat 5 5\nat 5 5 5", 1)


class FormOfLines(Lines):
    def test_example(self):
        self.check_invalid("sheet 10 10\nend", 1)

    def test_integers(self):
        for line, (least, greatest) in LIMITS.items():
            for value in [least - 1, least, least + 1, (least + greatest) // 2, greatest - 1, greatest, greatest + 1]:
                self.check_line(line.format(value), least <= value <= greatest)
            for value in [-999, -100, -1, 0, 1, 100, 999]:
                self.check_line(line.format(value), least <= value <= greatest)

    def test_what_is_no_integer(self):
        for line, word in product(LIMITS, NOT_INTEGERS):
            self.check_line(line.format(word), False)

    def test_switches(self):
        self.check_line("spare on", True)
        self.check_line("spare off", True)
        for word in ["", "On", "ON", "oN", "OFF", "o", "of", "onn", "offf", "no", "1", "0", "true", "on on", "on off"]:
            self.check_line("spare " + word, False)

    def test_names(self):
        for name in NAMES:
            for line in (f"place {name} 0 0", f"text {name}", f"text {name} ", f"text {name} {name}"):
                self.check_line(line, True)
        for name in NOT_NAMES:
            for line in (f"place {name} 0 0", f"text {name}", f"text {name} ", f"text {name} b"):
                self.check_line(line, False)

    def test_number_of_words(self):
        for line in [
            "sheet", "sheet 10", "sheet 10 10 10", "strength", "strength 1 1", "spare", "spare on on", "at", "at 1",
            "at 1 1 1", "move", "move 1", "move 1 1 1", "place", "place a", "place a 0", "place a 0 0 0", "place 0 0",
            "place a a 0", "repeat", "repeat 1 1", "end 1", "end end", "text",
        ]:
            self.check_line(line, False)

    def test_spaces(self):
        for line in VALID[:6] + ["repeat 2", "end", "sheet 20 20"]:
            words = line.split(" ")
            for at in range(len(words)):
                for spaces in (" ", "  "):
                    spoiled = " ".join(words[:at] + [spaces + words[at]] + words[at + 1:])
                    if at or not line.startswith("sheet"):
                        self.check_line(spoiled, False)
                    else:
                        self.check_invalid(spoiled, 0)
            self.check_line(line + " ", False)
            self.check_line(line + "  ", False)
            self.check_line(line.replace(" ", "\t") + "\t", False)
            self.check_line(line.replace(" ", "") + "x", False)
            self.check_line(line + "\r", False)
        for line in ["text  a", "text  ", "text ", " text a", "text   a b", "  text a"]:
            self.check_line(line, False)

    def test_first_words(self):
        for line in ["", " ", "x", "Sheet 10 10", "AT 1 1", "ats 1 1", "a 1 1", "loop 2", "ends", "en", "texta b",
                     "text\ta b", "#", "# at 1 1", "None", "1", "\t", "\u00a0", "place", "moves 1 1"]:
            self.check_line(line, False)

    def test_messages(self):
        for message in [
            "7", " ", "  ", "   a", "a  b", "a ", " a ", "text a", "\t", "\x00", "%", "\u20ac", "a\rb", "\u2028", "\x85",
            "\x0b", "x" * 201, "x" * 1000,
        ]:
            self.check_line("text a " + message, True)


class FirstLine(Lines):
    def test_sizes(self):
        for rows, columns in product((9, 10, 35, 60, 61), repeat=2):
            source = f"sheet {rows} {columns}"
            if rows in (9, 61) or columns in (9, 61):
                self.check_invalid(source, 0)
            else:
                self.check_valid(source)

    def test_another_first_line(self):
        for line in VALID + ["", "repeat 1", "end", "x"]:
            self.check_invalid(line, 0)
            self.check_invalid(line + "\nsheet 10 10", 0)
            self.check_invalid(line + "\nend\nx", 0)
        self.check_invalid("\nsheet 10 10", 0)

    def test_no_other_line_is_like_it(self):
        self.check_invalid("sheet 10 10\nsheet 10 10", 1)
        self.check_invalid("sheet 10 10\nrepeat 2\nsheet 10 10\nend", 2)

    def test_it_may_stand_alone(self):
        self.check_valid("sheet 10 10")
        self.assertEqual(run_script("sheet 10 12"), ("." * 12,) * 10)

    def test_empty_lines(self):
        self.check_invalid("", 0)
        self.check_invalid("\n", 0)
        self.check_invalid("sheet 10 10\n", 1)
        self.check_invalid("sheet 10 10\n\nat 1 1", 1)
        self.check_invalid("sheet 10 10\nat 1 1\n", 2)
        self.check_invalid("sheet 10 10\r\nat 1 1", 0)
        self.check_invalid("sheet 10 10\rat 1 1", 0)

    def test_other_kinds(self):
        for value in [None, True, False, 0, 10, (), ("sheet 10 10",), [], ["sheet 10 10"]]:
            self.check_invalid(value, 0)


class NumberOfLines(Lines):
    def test_sixty_lines(self):
        for line in ("at 1 1", "text a", "spare on"):
            for count in (58, 59):
                self.check_valid("sheet 10 10" + f"\n{line}" * count)
            for count in (60, 61, 100):
                self.check_invalid("sheet 10 10" + f"\n{line}" * count, 60)

    def test_lines_that_are_not_executed_count(self):
        self.check_valid("sheet 10 10\nrepeat 0" + "\nat 1 1" * 57 + "\nend")
        self.check_invalid("sheet 10 10\nrepeat 0" + "\nat 1 1" * 58 + "\nend", 60)
        self.check_valid("sheet 10 10" + "\nrepeat 1\nend" * 29 + "\nat 1 1")
        self.check_invalid("sheet 10 10" + "\nrepeat 1\nend" * 30, 60)

    def test_what_the_last_lines_are_does_not_matter(self):
        for line in ["x", "", "end", "repeat 1", "at 1 1"]:
            self.check_invalid("sheet 10 10" + "\nat 1 1" * 59 + "\n" + line, 60)
            self.check_invalid("sheet 10 10" + "\nat 1 1" * 59 + "\n" + line + "\nx", 60)

    def test_other_faults_before(self):
        for row in (1, 30, 59):
            lines = ["sheet 10 10"] + ["at 1 1"] * 80
            lines[row] = "x"
            self.check_invalid("\n".join(lines), row)
        lines = ["sheet 10 10"] + ["at 1 1"] * 80
        lines[61] = "x"
        self.check_invalid("\n".join(lines), 60)


class Loops(Lines):
    def test_four_levels(self):
        for count in range(5):
            self.check_valid("sheet 10 10" + "\nrepeat 2" * count + "\nat 1 1" + "\nend" * count)
            self.check_valid("sheet 10 10" + "\nrepeat 2" * count + "\nend" * count)
        self.check_invalid("sheet 10 10" + "\nrepeat 2" * 5 + "\nend" * 5, 5)
        self.check_invalid("sheet 10 10" + "\nrepeat 2" * 6 + "\nend" * 6, 5)
        self.check_invalid("sheet 10 10" + "\nrepeat 0" * 5 + "\nend" * 5, 5)

    def test_four_levels_several_times(self):
        loops = "\nrepeat 1" * 4 + "\nend" * 4
        self.check_valid("sheet 10 10" + loops * 3)
        inner = "\nrepeat 1\nend"
        self.check_valid("sheet 10 10" + "\nrepeat 1" * 3 + inner * 4 + "\nend" * 3 + loops)
        self.check_invalid("sheet 10 10" + loops + "\nrepeat 1" * 3 + inner * 2 + "\nrepeat 1" * 2, 17)

    def test_end_without_repeat(self):
        self.check_invalid("sheet 10 10\nend\nrepeat 1", 1)
        self.check_invalid("sheet 10 10\nrepeat 1\nend\nend", 3)
        self.check_invalid("sheet 10 10\nrepeat 1\nend\nat 1 1\nend\nrepeat 1\nend", 4)
        self.check_invalid("sheet 10 10" + "\nrepeat 1" * 4 + "\nend" * 5, 9)

    def test_missing_end(self):
        # The row is the number of lines.
        self.check_invalid("sheet 10 10\nrepeat 1", 2)
        self.check_invalid("sheet 10 10\nrepeat 0\nat 1 1", 3)
        self.check_invalid("sheet 10 10\nrepeat 1\nrepeat 1\nend", 4)
        self.check_invalid("sheet 10 10\nrepeat 1\nend\nrepeat 1\nat 1 1\nat 1 1", 6)
        self.check_invalid("sheet 10 10" + "\nrepeat 1" * 4, 5)
        self.check_invalid("sheet 10 10\nrepeat 1" + "\nat 1 1" * 57, 59)
        self.check_invalid("sheet 10 10\nrepeat 1" + "\nat 1 1" * 58, 60)
        self.check_invalid("sheet 10 10\nrepeat 1" + "\nat 1 1" * 59, 60)

    def test_a_malformed_end_or_repeat(self):
        self.check_invalid("sheet 10 10\nrepeat 1\nend ", 2)
        self.check_invalid("sheet 10 10\nrepeat 100\nend", 1)
        self.check_invalid("sheet 10 10" + "\nrepeat 1" * 4 + "\nrepeat 100", 5)


class SeveralFaults(Lines):
    def test_the_first_invalid_line(self):
        faults = ["x", "", "at 1", "end", "sheet 10 10", "text A", "repeat -0", "spare  on"]
        for first, second in product(faults, repeat=2):
            self.check_invalid(f"sheet 10 10\nat 1 1\n{first}\n{second}", 2)
            self.check_invalid(f"sheet 10 10\nrepeat 1\nat 1 1\nend\n{first}\nat 1 1\n{second}", 4)
            self.check_invalid(f"sheet 9 10\n{first}\n{second}", 0)
        for fault in faults[:3] + faults[4:]:
            self.check_invalid(f"sheet 10 10\nrepeat 1\n{fault}", 2)
            self.check_invalid("sheet 10 10" + "\nrepeat 1" * 5 + f"\n{fault}", 5)
            self.check_invalid("sheet 10 10" + "\nrepeat 1" * 3 + f"\n{fault}" + "\nrepeat 1" * 3, 4)

    def test_faults_come_before_the_execution(self):
        for source in [
            "sheet 10 10\nplace a 0 0\nx", "sheet 10 10\nplace a 0 0\nrepeat 1\nrepeat 1\nend",
            "sheet 10 10\nrepeat 99\nrepeat 99\nend\nend\nend",
        ]:
            self.check_invalid(source, interpreter.run(source)[1])
        for function in FUNCTIONS:
            self.assertRaises(ExecutionFailed, function, "sheet 10 10\nplace a 0 0")
            self.assertRaises(StepLimitExceeded, function, "sheet 10 10\nrepeat 99\nrepeat 99\nend\nend")


class Mixtures(Lines):
    def test_every_pair_of_lines(self):
        lines = VALID + ["end", "repeat 0", "repeat 1", "sheet 10 10", "x", "", " at 1 1", "at 1 1 ", "text  a"]
        for first, second in product(lines, repeat=2):
            for source in [
                f"{first}\n{second}", f"sheet 60 60\nrepeat 0\n{first}\n{second}\nend",
                f"sheet 60 60\nrepeat 0\nrepeat 2\n{first}\nend\n{second}\nend\nx",
            ]:
                expected = interpreter.run(source)
                if expected[0] == "ScriptError":
                    self.check_invalid(source, expected[1])
                elif len(expected) == 3:
                    self.check_valid(source)


if __name__ == "__main__":
    unittest.main()
