"""Scripts that are executed: point 20."""

import unittest
from itertools import product

from squaremark.errors import ExecutionFailed, ScriptError, StepLimitExceeded
from squaremark.labels import render_labels
from squaremark.scripts import flatten, placements, run_script
from tests import drawing, interpreter, pages

FUNCTIONS = (run_script, placements, flatten)
ERRORS = {"ScriptError": ScriptError, "ExecutionFailed": ExecutionFailed, "StepLimitExceeded": StepLimitExceeded}
# With each strength, this message takes several labels of the side 14 or 16.
LONG = "Meet me at the pier, 7 o'clock sharp."
# Lines for scripts of any kind.
LINES = [
    "text a 7", "text a", "text b eat", "text a ", "text a  ", "text c %", f"text b {LONG}", "strength 1", "strength 2",
    "strength 3", "spare on", "spare off", "at 5 60", "move -99 99", "at 0 0\nplace a 0 0", "at 0 20\nplace a 0 3",
    "at 20 0\nplace a 0 4", "at 20 20\nplace a 1 6", "at 0 0\nrepeat 2\nplace a 0 7\nmove 17 17\nend",
    "at 40 30\nplace b 0 5", "at 42 0\nplace b 1 2", "repeat 0", "repeat 1", "repeat 2", "move 0 11\nplace a 0 1",
    "move 11 0\nplace a 0 2", "end",
]


class Scripts(unittest.TestCase):
    def check(self, source):
        """Compare with the independent interpreter, and return what it gives."""
        expected = interpreter.run(source)
        for at, function in enumerate(FUNCTIONS):
            with self.subTest(source=source, function=function.__name__):
                if isinstance(expected[0], str):
                    self.check_error(function, source, *expected)
                else:
                    self.assertEqual(function(source), expected[at])
        return expected

    def check_error(self, function, source, name, row):
        with self.assertRaises(ERRORS[name]) as caught:
            function(source)
        self.assertEqual(getattr(caught.exception, "row", None), row)

    def check_failed(self, source, row):
        self.assertEqual(self.check(source), ("ExecutionFailed", row))

    def check_too_long(self, source):
        self.assertEqual(self.check(source), ("StepLimitExceeded", None))


class Examples(Scripts):
    def test_run_script(self):
        sheet = run_script("sheet 10 12\ntext a 7\nstrength 1\nat 0 2\nplace a 0 0")
        self.assertEqual(sheet[0], "..##########")
        self.check_error(run_script, "sheet 10 10\nend", "ScriptError", 1)
        self.check_error(run_script, "sheet 10 10\nplace a 0 0", "ExecutionFailed", 1)

    def test_placements(self):
        source = "sheet 30 30\ntext a 7\nstrength 1\nrepeat 2\nplace a 0 0\nmove 0 12\nend"
        self.assertEqual(placements(source), [(0, 0, 10), (0, 12, 10)])

    def test_flatten(self):
        self.assertEqual(flatten("sheet 10 10\nrepeat 2\nmove 1 0\nend"), "sheet 10 10\nmove 1 0\nmove 1 0")

    def test_kinds_of_the_results(self):
        source = "sheet 30 30\ntext a 7\nplace a 0 0"
        self.assertEqual([type(function(source)) for function in FUNCTIONS], [tuple, list, str])
        self.assertEqual({type(row) for row in run_script(source)}, {str})
        self.assertEqual({type(entry) for entry in placements(source)}, {tuple})


class Statements(Scripts):
    def test_an_empty_script(self):
        for rows, columns in product((10, 35, 60), repeat=2):
            source = f"sheet {rows} {columns}"
            self.check(source)
            self.assertEqual(run_script(source), pages.blank(rows, columns))
            self.assertEqual((placements(source), flatten(source)), ([], source))

    def test_the_cursor(self):
        for source in [
            "place a 0 0", "at 7 9\nplace a 0 0", "move 7 9\nplace a 0 0", "at 7 9\nmove 3 -2\nplace a 0 0",
            "move 3 4\nmove 5 6\nplace a 0 0", "at 30 30\nat 0 5\nplace a 0 0", "move 9 9\nat 1 2\nplace a 0 0",
            "place a 0 0\nmove 11 0\nplace a 0 0\nmove 0 12\nplace a 0 0",
        ]:
            self.assertGreater(len(self.check("sheet 60 50\nstrength 1\ntext a 7\n" + source)[1]), 0)

    def test_the_cursor_outside_the_sheet(self):
        before = "sheet 20 30\ntext a 7\n"
        for moves in ["move -99 -99\nmove -99 99\nmove 99 0\nmove 99 0", "at 60 60\nmove -60 -60", "move 0 -1\nmove 0 1"]:
            expected = self.check(before + moves + "\nplace a 0 0")
            self.assertEqual(expected[1], [(0, 0, 10)])
        for moves in ["move 99 99\n" * 20, "move -99 0\n" * 20, "at 60 60\n"]:
            self.assertEqual(self.check(before + moves + "at 4 5")[1], [])
        for cell in ["move -1 0", "move 0 -1", "at 11 0", "at 0 21", "at 20 30", "at 60 60", "move -99 -99"]:
            self.check_failed(before + cell + "\nplace a 0 0", 3)
        self.check(before + "at 10 20\nplace a 0 0")

    def test_every_part_and_orientation(self):
        for strength, count in [(1, 2), (2, 2), (3, 3)]:
            labels = render_labels(LONG, strength=strength, spare=True)
            self.assertEqual(len(labels), count + 1)
            for part, orientation in product(range(8), range(8)):
                source = f"sheet 20 20\ntext a {LONG}\nstrength {strength}\nspare on\nat 2 3\nplace a {part} {orientation}"
                expected = self.check(source)
                if part <= count:
                    view = drawing.view(labels[part], orientation)
                    self.assertEqual(expected[0], pages.compose(20, 20, [(view, 2, 3)]))
                else:
                    self.assertEqual(expected, ("ExecutionFailed", 5))

    def test_the_defaults(self):
        sheet = self.check("sheet 16 16\ntext a 1234567\nplace a 0 0")[0]
        self.assertEqual(sheet, pages.compose(16, 16, [(render_labels("1234567", strength=2)[0], 0, 0)]))
        self.check_failed("sheet 16 16\ntext a 7\nplace a 1 0", 2)

    def test_strength_for_later_places(self):
        before = "sheet 60 60\ntext a 1234567\n"
        sides = [
            ("strength 1\nplace a 0 0", [10]), ("strength 2\nplace a 0 0", [12]), ("strength 3\nplace a 0 0", [12]),
            ("place a 0 0\nstrength 1\nat 20 20\nplace a 0 0\nmove 20 20\nstrength 3\nplace a 0 0", [12, 10, 12]),
            ("place a 0 0\nstrength 1", [12]), ("strength 1\nstrength 2\nplace a 0 0", [12]),
            ("strength 1\ntext b 1234567\nplace b 0 0", [10]), ("text b 1234567\nstrength 1\nplace b 0 0", [10]),
        ]
        for source, expected in sides:
            self.assertEqual([side for _, _, side in self.check(before + source)[1]], expected)

    def test_spare_for_later_places(self):
        before = "sheet 60 60\ntext a 7\n"
        self.check(before + "spare on\nplace a 1 0")
        self.check(before + "place a 0 0\nspare on\nat 20 20\nplace a 1 0\nat 40 40\nplace a 0 0")
        self.check(before + "spare off\nspare on\nplace a 1 0")
        self.check_failed(before + "spare on\nplace a 2 0", 3)
        self.check_failed(before + "spare on\nspare off\nplace a 1 0", 4)
        self.check_failed(before + "spare on\nplace a 1 0\nat 20 20\nspare off\nplace a 1 0", 6)
        self.check_failed(before + "place a 1 0\nspare on", 2)

    def test_a_message_that_is_defined_again(self):
        before = "sheet 60 60\nstrength 1\ntext a 7\nplace a 0 0\n"
        for text in ["eat", "", " ", "  ten", LONG]:
            expected = self.check(before + f"text a {text}\nat 20 20\nplace a 0 0")
            first = [(render_labels("7", strength=1)[0], 0, 0), (render_labels(text, strength=1)[0], 20, 20)]
            self.assertEqual(expected[0], pages.compose(60, 60, first))
        self.check_failed(before + "at 20 20\ntext a %\nplace a 0 0", 6)
        self.check(before + "at 20 20\ntext a %\ntext a 8\nplace a 0 0")

    def test_messages_with_several_names(self):
        source = "sheet 60 60\ntext a 1\ntext b 2\ntext ab 3\ntext ba\n"
        places = "place a 0 0\nmove 11 0\nplace b 0 0\nmove 11 0\nplace ab 0 0\nmove 11 0\nplace ba 0 0"
        images = [render_labels(text)[0] for text in ("1", "2", "3", "")]
        expected = pages.compose(60, 60, [(image, 11 * at, 0) for at, image in enumerate(images)])
        self.assertEqual(self.check(source + places)[0], expected)

    def test_spaces_in_messages(self):
        for text in ["", " ", "  ", " a", "a ", "  a  b  "]:
            expected = pages.compose(20, 20, [(render_labels(text)[0], 0, 0)])
            self.assertEqual(self.check(f"sheet 20 20\ntext a {text}\nplace a 0 0")[0], expected)


class Failures(Scripts):
    def test_undefined_messages(self):
        self.check_failed("sheet 20 20\nplace a 0 0", 1)
        self.check_failed("sheet 20 20\ntext a 7\nplace b 0 0\ntext b 7", 2)
        self.check_failed("sheet 20 20\nrepeat 0\ntext a 7\nend\nplace a 0 0", 4)
        self.check("sheet 20 20\nrepeat 1\ntext a 7\nend\nplace a 0 0")

    def test_messages_that_cannot_be_rendered(self):
        for text in ["%", "a\tb", "\u20ac", "x" * 201, "e" * 201, "~" * 100, "\r", "\x00"]:
            self.check_failed(f"sheet 20 20\ntext a {text}\nplace a 0 0", 2)
            self.assertEqual(self.check(f"sheet 20 20\ntext a {text}\nat 1 1")[1], [])
        # This message is too long for all strengths but 1.
        for strength in (1, 2, 3):
            source = f"sheet 20 20\ntext a {'1' * 130}\nstrength {strength}\nplace a 3 0"
            self.assertEqual(self.check(source)[0] == "ExecutionFailed", strength != 1)

    def test_parts_that_do_not_exist(self):
        for part in range(1, 8):
            self.check_failed(f"sheet 20 20\ntext a 7\nplace a {part} 0", 2)
            self.check(f"sheet 20 20\ntext a {LONG}\nspare on\nplace a {part} 0")

    def test_images_outside_the_sheet(self):
        for text, side in [("7", 10), ("1" * 9, 12), ("1" * 15, 14), ("1" * 25, 16)]:
            for row, column in product((0, 1, 20 - side, 21 - side), (0, 2, 30 - side, 31 - side)):
                expected = self.check(f"sheet 20 30\ntext a {text}\nat {row} {column}\nplace a 0 0")
                if row <= 20 - side and column <= 30 - side:
                    self.assertEqual(expected[1], [(row, column, side)])
                else:
                    self.assertEqual(expected, ("ExecutionFailed", 3))

    def test_images_that_overlap_or_touch(self):
        before = "sheet 60 60\nstrength 1\ntext a 7\nat 20 20\nplace a 0 0\n"
        for row, column in product((-11, -10, -5, 0, 10, 11), repeat=2):
            expected = self.check(before + f"move {row} {column}\nplace a 0 0")
            self.assertEqual(len(expected) == 3, abs(row) == 11 or abs(column) == 11)

    def test_the_row_in_a_loop(self):
        before = "sheet 60 60\ntext a 7\n"
        self.check_failed(before + "repeat 2\nplace a 0 0\nend", 3)
        self.check_failed(before + "repeat 9\nplace a 0 0\nmove 0 11\nend", 3)
        self.check(before + "repeat 5\nplace a 0 0\nmove 0 11\nend")
        self.check_failed(before + "repeat 3\nrepeat 5\nplace a 0 0\nmove 0 11\nend\nmove 11 -48\nend", 4)
        self.check(before + "repeat 3\nrepeat 5\nplace a 0 0\nmove 0 11\nend\nmove 11 -55\nend")

    def test_the_first_failure(self):
        self.check_failed("sheet 20 20\ntext a 7\nplace b 0 0\nplace a 1 0", 2)
        self.check_failed("sheet 20 20\ntext a 7\nplace a 0 0\nplace a 0 0\nplace b 0 0", 3)


class StepLimit(Scripts):
    def test_exactly_400_steps(self):
        # Each iteration counts one more than its statements: here, all count 396.
        before = "sheet 10 10\nrepeat 99\nat 1 1\nat 1 2\nat 1 3\nend"
        self.assertEqual(len(self.check(before + "\nat 1 4" * 4)), 3)
        self.check_too_long(before + "\nat 1 4" * 5)
        for count in (4, 7, 39, 49):
            for times in (400 // (count + 1) - 1, 400 // (count + 1), 400 // (count + 1) + 1):
                source = f"sheet 10 10\nrepeat {times}" + "\nmove 1 1" * count + "\nend"
                self.assertEqual(len(self.check(source)) == 3, times * (count + 1) <= 400)

    def test_without_loops(self):
        # A script is too short for so many steps without loops.
        self.assertEqual(len(self.check("sheet 10 10" + "\nmove 1 1" * 59)), 3)

    def test_empty_loops(self):
        loops = "\nrepeat 99\nend" * 4
        self.assertEqual(len(self.check("sheet 10 10" + loops + "\nrepeat 4\nend")), 3)
        self.check_too_long("sheet 10 10" + loops + "\nrepeat 5\nend")
        self.assertEqual(len(self.check("sheet 10 10" + loops + "\nat 1 1" * 4)), 3)
        self.check_too_long("sheet 10 10" + loops + "\nat 1 1" * 5)

    def test_loops_without_iterations(self):
        before = "sheet 10 10" + "\nrepeat 99\nend" * 4 + "\nat 1 1" * 4
        self.assertEqual(len(self.check(before + "\nrepeat 0\nend")), 3)
        self.assertEqual(len(self.check(before + "\nrepeat 0\nat 1 1\nrepeat 9\nend\nend" * 3)), 3)
        self.check_too_long(before + "\nrepeat 0\nend\nrepeat 1\nend")
        self.check_too_long(before + "\nrepeat 0\nat 1 1\nend\nat 1 1")

    def test_loops_in_loops(self):
        for outer, inner in [
            (19, 20), (20, 19), (20, 20), (99, 3), (80, 4), (81, 4), (4, 99), (5, 79), (3, 99), (99, 99),
        ]:
            expected = self.check(f"sheet 10 10\nrepeat {outer}\nrepeat {inner}\nend\nend")
            steps = outer * (1 + inner)
            self.assertEqual(expected[0] == "StepLimitExceeded", steps > 400)
        for counts in product((1, 2, 7, 99), repeat=4):
            loops = "".join(f"\nrepeat {count}" for count in counts)
            self.check("sheet 10 10" + loops + "\nend" * 4)
            self.check("sheet 10 10" + loops + "\nat 1 1" + "\nend" * 4)
        self.check("sheet 10 10\nrepeat 99\nrepeat 0\nrepeat 99\nend\nend\nend\nrepeat 99\nat 1 1\nend")

    def test_each_count_around_the_limit(self):
        for count in range(390, 410):
            full, rest = divmod(count, 100)
            source = "sheet 10 10" + "\nrepeat 49\nat 1 1\nend\nspare on\nspare off" * full
            source += f"\nrepeat {rest // 2}\nmove 1 0\nend" + "\nstrength 1" * (rest % 2)
            expected = self.check(source)
            self.assertEqual(expected[0] == "StepLimitExceeded", count > 400)

    def test_whichever_comes_first(self):
        before = "sheet 10 10" + "\nrepeat 99\nend" * 4
        self.check_failed(before + "\nat 1 1" * 3 + "\nplace a 0 0\nat 1 1", 12)
        self.check_too_long(before + "\nat 1 1" * 4 + "\nplace a 0 0")
        self.check_failed(before + "\nat 1 1" * 2 + "\nrepeat 1\nplace a 0 0\nend\nat 1 1", 12)
        self.check_too_long(before + "\nat 1 1" * 3 + "\nrepeat 1\nplace a 0 0\nend")
        self.check_failed("sheet 10 10\nplace a 0 0" + "\nrepeat 99\nend" * 9, 1)
        self.check_failed("sheet 10 10\nrepeat 99\nrepeat 99\nend\nplace a 0 0\nend", 4)
        self.check_too_long("sheet 10 10\nrepeat 5\nrepeat 99\nend\nend\nplace a 0 0")

    def test_script_errors_come_before_both(self):
        for source in ["place a 0 0", "repeat 99\nrepeat 99\nend\nend"]:
            for fault, row in [("x", 1), ("end", 1), ("repeat 1", 2)]:
                expected = ("ScriptError", source.count("\n") + 1 + row)
                self.assertEqual(self.check(f"sheet 10 10\n{source}\n{fault}"), expected)


class Flattening(Scripts):
    def check_flat(self, source):
        """The flattened script of a script, checked as a script of its own if it is short enough."""
        sheet, places, flat = self.check(source)
        self.assertEqual(flat.split("\n")[0], source.split("\n")[0])
        if flat.count("\n") < 60:
            self.assertEqual(self.check(flat), (sheet, places, flat))
        else:
            self.assertEqual(self.check(flat), ("ScriptError", 60))
        return flat.split("\n")[1:]

    def test_loops(self):
        self.assertEqual(self.check_flat("sheet 10 10\nrepeat 0\nat 1 1\nend"), [])
        self.assertEqual(self.check_flat("sheet 10 10\nrepeat 99\nend"), [])
        self.assertEqual(self.check_flat("sheet 10 10\nrepeat 3\nat 1 1\nspare on\nend"), ["at 1 1", "spare on"] * 3)
        lines = self.check_flat("sheet 10 10\nrepeat 2\nat 1 1\nrepeat 3\nmove -2 2\nend\nrepeat 0\nat 2 2\nend\nend\nat 3 3")
        self.assertEqual(lines, (["at 1 1"] + ["move -2 2"] * 3) * 2 + ["at 3 3"])

    def test_empty_messages(self):
        for line in ("text a", "text a "):
            self.assertEqual(self.check_flat(f"sheet 10 10\n{line}\nplace a 0 0"), ["text a", "place a 0 0"])
            self.assertEqual(self.check_flat(f"sheet 10 10\nrepeat 2\n{line}\nend"), ["text a"] * 2)

    def test_other_messages_are_unchanged(self):
        for text in [" ", "  ", " a", "a ", " a  b ", "text a", "%", "\t", "\u20ac", "end", "x" * 201]:
            self.assertEqual(self.check_flat(f"sheet 10 10\ntext abc {text}"), [f"text abc {text}"])

    def test_every_statement(self):
        lines = [
            "text a 7", "strength 1", "strength 2", "strength 3", "spare on", "spare off", "at 60 0", "move -99 99",
            "move 0 0", "at 0 0", "place a 0 7",
        ]
        self.assertEqual(self.check_flat("sheet 60 10\n" + "\n".join(lines)), lines)

    def test_many_lines(self):
        for count in (58, 59, 60, 99):
            self.assertEqual(self.check_flat(f"sheet 10 10\nrepeat {count}\nmove 1 0\nend"), ["move 1 0"] * count)
        lines = self.check_flat("sheet 10 10" + "\nrepeat 99\nat 1 1\nat 2 2\nat 3 3\nend" + "\nat 4 4" * 4)
        self.assertEqual(len(lines), 301)


class Mixtures(Scripts):
    def test_scripts_of_any_lines(self):
        kinds = []
        for seed in range(2000):
            lines = [LINES[number % len(LINES)] for number in drawing.numbers(3 + seed % 12, seed)]
            opened = "\n".join(lines).count("repeat") - "\n".join(lines).count("end")
            source = "\n".join(["sheet 60 50", "text a 7"] + lines + ["end"] * max(opened, 0))
            expected = self.check(source)
            kinds.append(expected[0] if isinstance(expected[0], str) else len(expected[1]))
        for kind in ["ScriptError", "ExecutionFailed", 0, 1, 2, 3]:
            self.assertGreater(kinds.count(kind), 5, kind)

    def test_scripts_that_place_many_images(self):
        for strength, rows, columns, count in product((1, 2, 3), (1, 3), (2, 4), (16, 17)):
            source = (
                f"sheet 60 60\ntext a {LONG}\nspare on\nstrength {strength}\nrepeat {rows}\nrepeat {columns}\n"
                f"place a 0 5\nmove 0 {count}\nend\nmove {count} 0\nat 20 0\nend\nat 40 40\nplace a 1 2"
            )
            self.check(source)


if __name__ == "__main__":
    unittest.main()
