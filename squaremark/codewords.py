"""Blocks of data symbols and check symbols, and certificates that no block is close."""

from itertools import combinations

from squaremark.errors import BlockDecodable, InvalidBlock, InvalidCertificate
from squaremark.gf16 import is_number, is_symbol, over, times

_LONGEST_BLOCK = 16


def encode_block(data, check_count):
    """Return the tuple of the data symbols, followed by the check symbols."""
    _require_data(data, check_count)
    points = dict(enumerate(data))
    return tuple(_values(points, len(data) + check_count))


def decode_block(received, check_count):
    """Return the data symbols of the close block as a tuple, or None if there is none."""
    _require_received(received, check_count)
    data_count = len(received) - check_count
    known = _known_indexes(received)
    for entry in _covering_entries(known, data_count):
        values = _values_through(entry, received)
        if _count_differences(values, received) <= _radius(known, data_count):
            return tuple(values[:data_count])
    return None


def find_certificate(received, check_count):
    """Return a list of entries which shows that no block is close."""
    if decode_block(received, check_count) is not None:
        raise BlockDecodable("a block is close")
    return _covering_entries(_known_indexes(received), len(received) - check_count)


def check_certificate(received, check_count, certificate):
    """Return whether a certificate is valid."""
    _require_received(received, check_count)
    data_count = len(received) - check_count
    known = _known_indexes(received)
    _require_certificate(certificate, known, data_count)
    if len(known) < data_count:
        return True
    radius = _radius(known, data_count)
    return _avoids_all_sets(certificate, known, radius) and _all_are_far(certificate, received, radius)


def _require_data(data, check_count):
    if not isinstance(data, tuple) or not data:
        raise InvalidBlock("the data must be a non-empty tuple")
    if not all(is_symbol(entry) for entry in data):
        raise InvalidBlock("the data must be symbols")
    if not is_number(check_count) or check_count < 0:
        raise InvalidBlock("the number of check symbols must be at least 0")
    if len(data) + check_count > _LONGEST_BLOCK:
        raise InvalidBlock("a block has at most 16 symbols")


def _require_received(received, check_count):
    if not isinstance(received, tuple) or not 1 <= len(received) <= _LONGEST_BLOCK:
        raise InvalidBlock("a received block is a tuple of 1 to 16 entries")
    if not all(entry is None or is_symbol(entry) for entry in received):
        raise InvalidBlock("each entry must be a symbol or None")
    if not is_number(check_count) or not 0 <= check_count < len(received):
        raise InvalidBlock("the number of check symbols must be at least 0 and less than the length")


def _require_certificate(certificate, known, data_count):
    if not isinstance(certificate, list):
        raise InvalidCertificate(0)
    for index, entry in enumerate(certificate):
        if not _is_entry(entry, known, data_count):
            raise InvalidCertificate(index)


def _is_entry(entry, known, data_count):
    if not isinstance(entry, tuple) or len(entry) != data_count:
        return False
    # `in` alone would take True for 1.
    if not all(is_number(at) and at in known for at in entry):
        return False
    return all(entry[k - 1] < entry[k] for k in range(1, len(entry)))


def _known_indexes(received):
    return [at for at, entry in enumerate(received) if entry is not None]


def _radius(known, data_count):
    # Check symbols less erasures are as many as known symbols less data symbols.
    return (len(known) - data_count) // 2


def _covering_entries(known, data_count):
    """Return entries such that each set of as many known indexes as the radius is avoided by one.

    The known indexes are taken in pairs. Such a set meets at most as many pairs as the
    radius, and without these pairs there are still as many indexes as data symbols.
    """
    if len(known) < data_count:
        return []
    pairs = [known[at:at + 2] for at in range(0, len(known), 2)]
    return [tuple(rest[:data_count]) for rest in _without_pairs(known, pairs, _radius(known, data_count))]


def _without_pairs(known, pairs, count):
    """Return what is left of the known indexes without `count` of the pairs, for each choice of these."""
    choices = []
    for chosen in combinations(pairs, count):
        dropped = [at for pair in chosen for at in pair]
        choices.append([at for at in known if at not in dropped])
    return choices


def _avoids_all_sets(certificate, known, radius):
    masks = [_mask(entry) for entry in certificate]
    for chosen in combinations(known, radius):
        avoided = _mask(chosen)
        if not any(mask & avoided == 0 for mask in masks):
            return False
    return True


def _mask(indexes):
    mask = 0
    for at in indexes:
        mask |= 1 << at
    return mask


def _all_are_far(certificate, received, radius):
    for entry in certificate:
        if _count_differences(_values_through(entry, received), received) <= radius:
            return False
    return True


def _count_differences(values, received):
    return len([at for at in _known_indexes(received) if values[at] != received[at]])


def _values_through(entry, received):
    points = {at: received[at] for at in entry}
    return _values(points, len(received))


def _values(points, length):
    """Return the values, at the positions below `length`, of the polynomial through the points.

    `points` gives the symbol at each of some positions. The polynomial is the one of
    lowest degree, in the form of Lagrange. Sums and differences of symbols are `^`.
    """
    weights = {at: over(points[at], _distance_product(at, points)) for at in points}
    return [_value(at, points, weights) for at in range(length)]


def _value(at, points, weights):
    if at in points:
        return points[at]
    total = 0
    for position in points:
        total ^= over(weights[position], at ^ position)
    return times(total, _distance_product(at, points))


def _distance_product(at, points):
    """Return the product of the differences between a position and all other positions of the points."""
    result = 1
    for position in points:
        if position != at:
            result = times(result, at ^ position)
    return result
