"""The lines of scripts, and the loops that they form."""

from squaremark.errors import ScriptError
from squaremark.names import is_name

_MOST_LINES = 60
_MOST_LEVELS = 4
_MOST_DIGITS = 3
_SWITCHES = {"on": True, "off": False}
# What the other words of a line are, by its first word: a name, a switch, or an integer,
# which stands here as its least and its greatest value. Lines with `text` have no fixed form.
_FORMS = {
    "sheet": ((10, 60), (10, 60)),
    "strength": ((1, 3),),
    "spare": ("switch",),
    "at": ((0, 60), (0, 60)),
    "move": ((-99, 99), (-99, 99)),
    "place": ("name", (0, 7), (0, 7)),
    "repeat": ((0, 99),),
    "end": (),
}


class Statement:
    """A line of a script: its row, its text, its first word, and the values of its other words.

    The body of a `repeat` is the list of the statements in its loop.
    """

    def __init__(self, row, line, word, arguments):
        self.row = row
        self.line = line
        self.word = word
        self.arguments = arguments
        self.body = []


def parse_script(source):
    """Return the first line of a script, and the list of the statements outside of its loops."""
    if not isinstance(source, str):
        raise ScriptError(0)
    lines = source.split("\n")
    blocks = [[]]
    for row, line in enumerate(lines):
        statement = _parse_line(row, line)
        if statement is None or not _may_stand(statement, len(blocks) - 1):
            raise ScriptError(row)
        _add_statement(blocks, statement)
    if len(blocks) > 1:
        raise ScriptError(len(lines))
    return blocks[0][0], blocks[0][1:]


def _may_stand(statement, level):
    """Return whether a statement may stand in its row, inside so many loops."""
    if statement.row >= _MOST_LINES or (statement.word == "sheet") != (statement.row == 0):
        return False
    if statement.word == "repeat":
        return level < _MOST_LEVELS
    return statement.word != "end" or level > 0


def _add_statement(blocks, statement):
    """Add a statement to the last one of the blocks, each of which is a loop within the one before."""
    if statement.word == "end":
        blocks.pop()
        return
    blocks[-1].append(statement)
    if statement.word == "repeat":
        blocks.append(statement.body)


def _parse_line(row, line):
    """Return the statement in a line, or None if the line is malformed."""
    if line.startswith("text "):
        return _parse_text(row, line)
    word, *others = line.split(" ")
    form = _FORMS.get(word)
    if form is None or len(others) != len(form):
        return None
    arguments = [_parse_word(other, kind) for other, kind in zip(others, form)]
    return None if None in arguments else Statement(row, line, word, arguments)


def _parse_text(row, line):
    name, _, message = line[len("text "):].partition(" ")
    if not is_name(name):
        return None
    # The space behind the name of an empty message is left out.
    return Statement(row, line if message else f"text {name}", "text", [name, message])


def _parse_word(word, kind):
    """Return the value of a word of some kind, or None if it is not of this kind."""
    if kind == "name":
        return word if is_name(word) else None
    if kind == "switch":
        return _SWITCHES.get(word)
    least, greatest = kind
    number = _parse_integer(word)
    return number if number is not None and least <= number <= greatest else None


def _parse_integer(word):
    digits = word[1:] if word.startswith("-") else word
    if not 1 <= len(digits) <= _MOST_DIGITS or not all(digit in "0123456789" for digit in digits):
        return None
    # Leading zeros and -0 are lost on the way to an integer and back.
    return int(word) if str(int(word)) == word else None
