"""Scripts, which place labels on a sheet."""

from squaremark.errors import ExecutionFailed, InvalidMessage, MessageTooLong, StepLimitExceeded
from squaremark.labels import render_labels
from squaremark.orientation import orientations
from squaremark.script_lines import parse_script
from squaremark.sheets import can_place, compose

_MOST_STEPS = 400


class Run:
    """What a script has done so far: `placed` is for `compose`, `lines` are those of the flattened script."""

    def __init__(self, rows, columns, line):
        self.rows = rows
        self.columns = columns
        self.lines = [line]
        self.row = 0
        self.column = 0
        self.strength = 2
        self.spare = False
        self.messages = {}
        self.placed = []


def run_script(source):
    """Return the sheet that a script produces."""
    run = _execute_script(source)
    return compose(run.rows, run.columns, run.placed)


def placements(source):
    """Return the row, the column and the side of the images that a script places."""
    return [(row, column, len(image)) for image, row, column in _execute_script(source).placed]


def flatten(source):
    """Return a script without loops that does what a script does."""
    return "\n".join(_execute_script(source).lines)


def _execute_script(source):
    first, block = parse_script(source)
    rows, columns = first.arguments
    run = Run(rows, columns, first.line)
    for count, statement in enumerate(_list_steps(block, _MOST_STEPS + 1)):
        if count == _MOST_STEPS:
            raise StepLimitExceeded("a script takes at most 400 steps")
        # An iteration counts, but does nothing by itself.
        if statement.word != "repeat":
            _execute(run, statement)
            run.lines.append(statement.line)
    return run


def _list_steps(block, most):
    """Return the statements of a block in the order of execution, at most so many of them.

    Each iteration of a loop begins with the `repeat` of the loop.
    """
    steps = []
    for statement in block:
        if statement.word == "repeat":
            _repeat(steps, statement, most)
        else:
            steps.append(statement)
    return steps[:most]


def _repeat(steps, loop, most):
    """Add the iterations of a loop to the steps until there are enough of them."""
    for _ in range(loop.arguments[0]):
        if len(steps) < most:
            steps.append(loop)
            steps.extend(_list_steps(loop.body, most - len(steps)))


def _execute(run, statement):
    arguments = statement.arguments
    if statement.word == "text":
        run.messages[arguments[0]] = arguments[1]
    elif statement.word == "strength":
        run.strength = arguments[0]
    elif statement.word == "spare":
        run.spare = arguments[0]
    elif statement.word == "at":
        run.row, run.column = arguments
    elif statement.word == "move":
        run.row += arguments[0]
        run.column += arguments[1]
    elif not _place(run, *arguments):
        raise ExecutionFailed(statement.row)


def _place(run, name, part, orientation):
    """Place a part of a message at the cursor, and return whether this is possible."""
    images = _render(run, name)
    if part >= len(images):
        return False
    item = (orientations(images[part])[orientation], run.row, run.column)
    if not can_place(run.rows, run.columns, run.placed, item):
        return False
    run.placed.append(item)
    return True


def _render(run, name):
    """Return the images of a message, or none if it is undefined or cannot be rendered."""
    if name not in run.messages:
        return []
    try:
        return render_labels(run.messages[name], strength=run.strength, spare=run.spare)
    except (InvalidMessage, MessageTooLong):
        return []
