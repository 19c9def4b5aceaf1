"""Scripts for the tests, read by patterns and executed line by line, without the package."""

import re
from functools import lru_cache

from tests import drawing, pages, reference

NUMBER = "(0|-?[1-9][0-9]{0,2})"
NAME = "([a-z]{1,8})"
PATTERNS = [
    (re.compile(f"(sheet) {NUMBER} {NUMBER}"), [(10, 60), (10, 60)]),
    (re.compile(f"(strength) {NUMBER}"), [(1, 3)]),
    (re.compile("(spare) (on|off)"), []),
    (re.compile(f"(at) {NUMBER} {NUMBER}"), [(0, 60), (0, 60)]),
    (re.compile(f"(move) {NUMBER} {NUMBER}"), [(-99, 99), (-99, 99)]),
    (re.compile(f"(place) {NAME} {NUMBER} {NUMBER}"), [None, (0, 7), (0, 7)]),
    (re.compile(f"(text) {NAME}(?: (.*))?", re.DOTALL), []),
    (re.compile(f"(repeat) {NUMBER}"), [(0, 99)]),
    (re.compile("(end)"), []),
]


class Stopped(Exception):
    """A script that cannot be run: the name of the error, and the row if it has one."""


def read_line(line):
    """The words of a line, numbers as integers, or None if it is malformed."""
    for pattern, limits in PATTERNS:
        match = pattern.fullmatch(line)
        if match:
            words = list(match.groups())
            for at, limit in enumerate(limits, 1):
                if limit is not None:
                    words[at] = int(words[at])
                    if not limit[0] <= words[at] <= limit[1]:
                        return None
            return words
    return None


def read_script(source):
    """The words of all lines, and for each `repeat` and `end` the row of the other one."""
    lines = [read_line(line) for line in source.split("\n")]
    opened = []
    partners = {}
    for row, words in enumerate(lines):
        if row == 60 or words is None or (row == 0) != (words[0] == "sheet"):
            raise Stopped("ScriptError", row)
        if words[0] == "repeat":
            opened.append(row)
            if len(opened) == 5:
                raise Stopped("ScriptError", row)
        if words[0] == "end":
            if not opened:
                raise Stopped("ScriptError", row)
            partners[row] = opened.pop()
            partners[partners[row]] = row
    if opened:
        raise Stopped("ScriptError", len(lines))
    return lines, partners


@lru_cache(maxsize=None)
def labels_of(text, strength, spare):
    """The images of a message, or none if it cannot be rendered."""
    if len(text) > 200 or any(character not in reference.CHARACTERS for character in text):
        return []
    if drawing.best_plan(len(reference.best_lists(text)[0]), strength) is None:
        return []
    return drawing.render(text, strength, spare)


class Interpreter:
    """Runs a script with a counter of rows, and counts for each open loop what is left of it."""

    def __init__(self, source):
        self.lines, self.partners = read_script(source)
        self.size = self.lines[0][1:]
        self.flat = [source.split("\n")[0]]
        self.left = {}
        self.steps = 0
        self.cursor = (0, 0)
        self.strength = 2
        self.spare = False
        self.texts = {}
        self.items = []
        row = 1
        while row < len(self.lines):
            row = self.run_line(row)
        self.sheet = pages.compose(*self.size, self.items)
        self.placements = [(row, column, len(image)) for image, row, column in self.items]

    def step(self):
        self.steps += 1
        if self.steps > 400:
            raise Stopped("StepLimitExceeded", None)

    def run_line(self, row):
        """Run a line, and return the row of the next one."""
        word = self.lines[row][0]
        if word == "repeat":
            self.left[row] = self.lines[row][1]
            return self.iterate(row)
        if word == "end":
            return self.iterate(self.partners[row])
        self.step()
        self.run_statement(row, *self.lines[row])
        return row + 1

    def iterate(self, start):
        """Begin an iteration of a loop, or leave it."""
        if self.left[start] == 0:
            return self.partners[start] + 1
        self.step()
        self.left[start] -= 1
        return start + 1

    def run_statement(self, row, word, *values):
        if word == "text":
            self.texts[values[0]] = values[1] or ""
            self.flat.append(f"text {values[0]}" + (f" {values[1]}" if values[1] else ""))
            return
        if word == "strength":
            self.strength = values[0]
        if word == "spare":
            self.spare = values[0] == "on"
        if word == "at":
            self.cursor = values
        if word == "move":
            self.cursor = [old + by for old, by in zip(self.cursor, values)]
        if word == "place":
            self.place(row, *values)
        self.flat.append(" ".join(str(value) for value in (word, *values)))

    def place(self, row, name, part, orientation):
        images = labels_of(self.texts[name], self.strength, self.spare) if name in self.texts else []
        if part not in range(len(images)):
            raise Stopped("ExecutionFailed", row)
        item = (drawing.view(images[part], orientation), *self.cursor)
        if not pages.is_allowed(*self.size, self.items, item):
            raise Stopped("ExecutionFailed", row)
        self.items.append(item)


def run(source):
    """The sheet, the placements and the flattened script, or the name of the error and its row."""
    try:
        done = Interpreter(source)
    except Stopped as stopped:
        return stopped.args
    return done.sheet, done.placements, "\n".join(done.flat)
