"""The message of several labels, put together."""

from squaremark.encoding import decode_symbols
from squaremark.errors import DecodeFailed, FrameNotFound, InvalidCount, InvalidImage, InvalidView
from squaremark.errors import MismatchedPart, MissingParts
from squaremark.labels import sum_data
from squaremark.orientation import decode_any


def assemble(views):
    """Return the message of a list of labels."""
    _, _, part_count, parts = _read_parts(views)
    return join_parts(parts, part_count)


def missing_parts(views):
    """Return the list of parts that are missing and cannot be recovered."""
    _, _, part_count, parts = _read_parts(views)
    return _lost_parts(parts, part_count)


def inspect_parts(views):
    """Return the side, the strength, the number of parts, and the list of parts present."""
    side, strength, part_count, parts = _read_parts(views)
    return side, strength, part_count, sorted(parts)


def join_parts(parts, part_count):
    """Return the message of a dict of the data of each part present."""
    missing = _lost_parts(parts, part_count)
    if missing:
        raise MissingParts(tuple(missing))
    symbols = []
    for part in range(part_count):
        symbols.extend(_part_data(parts, part))
    return decode_symbols(symbols)


def has_wrong_spare(parts, part_count):
    """Return whether all parts are present beside a spare label that does not hold their sums."""
    # The sum of all parts and of a spare label that fits them consists of zeros.
    return len(parts) > part_count and any(sum_data(list(parts.values())))


def _read_parts(views):
    """Return the side, the strength, the number of parts, and a dict of the data of each part present."""
    labels = _decode_all(views)
    parts = _collect_parts(labels)
    kind, _, _ = labels[0]
    side, strength, part_count = kind
    if has_wrong_spare(parts, part_count):
        raise MismatchedPart(_find_part(labels, part_count))
    return side, strength, part_count, parts


def _decode_all(views):
    """Return a list with the kind, the part number and the data of each label.

    The kind, a tuple of side, strength and number of parts, is the same for all labels
    of one message.
    """
    if not isinstance(views, list) or not views:
        raise InvalidCount("the labels must be a list that is not empty")
    labels = []
    for index, view in enumerate(views):
        try:
            strength, part, part_count, data = decode_any(view)
        except (InvalidImage, FrameNotFound, DecodeFailed):
            raise InvalidView(index) from None
        labels.append(((len(view), strength, part_count), part, data))
    return labels


def _collect_parts(labels):
    """Return a dict of the data of each part present."""
    first_kind, _, _ = labels[0]
    parts = {}
    for index, (kind, part, data) in enumerate(labels):
        if kind != first_kind or parts.get(part, data) != data:
            raise MismatchedPart(index)
        parts[part] = data
    return parts


def _find_part(labels, wanted):
    """Return the index of the first label with a part number."""
    return [part for kind, part, data in labels].index(wanted)


def _lost_parts(parts, part_count):
    """Return the list of parts that are missing and cannot be recovered."""
    missing = [part for part in range(part_count) if part not in parts]
    if len(missing) == 1 and part_count in parts:
        return []
    return missing


def _part_data(parts, part):
    """Return the data of a part that is present, or the only one missing beside the spare label."""
    if part in parts:
        return parts[part]
    return sum_data(list(parts.values()))
