"""A scanner, which collects views of the labels of one message."""

from squaremark.assembly import has_wrong_spare, join_parts
from squaremark.errors import DecodeFailed, InvalidCount, InvalidName, InvalidOperation, MismatchedPart
from squaremark.errors import SquaremarkError, UnknownCheckpoint, UnknownPart
from squaremark.gf16 import is_number
from squaremark.labels import decode_header, decode_label
from squaremark.names import is_name
from squaremark.orientation import merge, normalize

_OPERATIONS = ("add_view", "discard")


class Scanner:
    """Collects views of the labels of one message.

    The state is a list of steps: each operation in effect, with the views held after it.
    A view is held as a tuple of the kind of its label, the part and the normalized image.
    The kind, a tuple of side, strength and number of parts, is the same for all of them.
    Another state is always another list, so that a list that was kept stays as it was.
    """

    def __init__(self):
        self._steps = []
        self._saved = {}
        self._busy = False

    def add_view(self, view):
        """Add a view, and return its part and whether this part can be decoded now."""
        _, image = normalize(view)
        _, strength, part, part_count = decode_header(image)
        kind = (len(image), strength, part_count)
        held = self._held()
        if held and _kind_of(held) != kind:
            raise MismatchedPart(0)
        held = held + [(kind, part, image)]
        self._take_step(("add_view", view), held)
        return part, _decode_part(held, part) is not None

    def statuses(self):
        """Return the list of the statuses of all parts and of the spare label."""
        held = self._held()
        if not held:
            return []
        _, _, part_count = _kind_of(held)
        return [_status(held, part) for part in range(part_count + 1)]

    def message(self):
        """Return the message of the parts that can be decoded."""
        held = self._held()
        if not held:
            raise InvalidCount("there are no views")
        _, _, part_count = _kind_of(held)
        parts = _decode_parts(held, part_count)
        if has_wrong_spare(parts, part_count):
            raise MismatchedPart(0)
        return join_parts(parts, part_count)

    def merged_view(self, part):
        """Return the image that merges all views of a part."""
        return merge(_require_views(self._held(), part))

    def discard(self, part):
        """Remove all views of a part, and return their number."""
        held = self._held()
        count = len(_require_views(held, part))
        self._take_step(("discard", part), [entry for entry in held if entry[1] != part])
        return count

    def history(self):
        """Return the list of the operations that are in effect."""
        return [operation for operation, _ in self._steps]

    def undo(self):
        """Revert the last operation, and return whether there was one."""
        if not self._steps:
            return False
        self._steps = self._steps[:-1]
        return True

    def save(self, name):
        """Store the state under a name."""
        if not is_name(name):
            raise InvalidName("a name has one to eight letters a to z")
        self._saved[name] = self._steps

    def restore(self, name):
        """Return to a stored state."""
        if not is_name(name) or name not in self._saved:
            raise UnknownCheckpoint("no state is stored under this name")
        self._steps = self._saved[name]

    def checkpoints(self):
        """Return the list of the names of stored states in ascending order."""
        return sorted(self._saved)

    def apply_all(self, operations):
        """Apply a list of operations, all or none, and return the list of their results."""
        _require_operations(operations)
        steps = self._steps
        results = []
        self._busy = True
        try:
            for operation in operations:
                results.append(self._apply(operation))
            steps = self._steps
        finally:
            self._steps = steps
            self._busy = False
        return results

    def is_busy(self):
        """Return whether `apply_all` is running."""
        return self._busy

    def _held(self):
        """Return the list of the views that are held now."""
        if not self._steps:
            return []
        _, held = self._steps[-1]
        return held

    def _take_step(self, operation, held):
        self._steps = self._steps + [(operation, held)]

    def _apply(self, operation):
        name, argument = operation
        if name == "add_view":
            return self.add_view(argument)
        return self.discard(argument)


def replay(operations):
    """Return a scanner to which a list of operations has been applied."""
    _require_operations(operations)
    scanner = Scanner()
    for index, operation in enumerate(operations):
        try:
            scanner.apply_all([operation])
        except SquaremarkError:
            raise InvalidOperation(index) from None
    return scanner


def _require_operations(operations):
    if not isinstance(operations, list):
        raise InvalidOperation(0)
    for index, operation in enumerate(operations):
        if not _is_operation(operation):
            raise InvalidOperation(index)


def _is_operation(operation):
    return isinstance(operation, tuple) and len(operation) == 2 and operation[0] in _OPERATIONS


def _kind_of(held):
    kind, _, _ = held[0]
    return kind


def _views_of(held, part):
    return [image for _, owner, image in held if owner == part]


def _require_views(held, part):
    # Without the first test, True would stand for part 1.
    views = _views_of(held, part) if is_number(part) else []
    if not views:
        raise UnknownPart("there is no view of this part")
    return views


def _decode_part(held, part):
    """Return the data of a part, or None if it has no views or their merged image does not hold it."""
    views = _views_of(held, part)
    if not views:
        return None
    _, strength, part_count = _kind_of(held)
    try:
        label = decode_label(merge(views))
    except DecodeFailed:
        return None
    return label[3] if label[:3] == (strength, part, part_count) else None


def _decode_parts(held, part_count):
    """Return a dict of the data of each part that can be decoded, the spare label included."""
    parts = {}
    for part in range(part_count + 1):
        data = _decode_part(held, part)
        if data is not None:
            parts[part] = data
    return parts


def _status(held, part):
    if not _views_of(held, part):
        return "missing"
    return "unreadable" if _decode_part(held, part) is None else "decoded"
