"""Arithmetic of symbols, the integers from 0 to 15."""

from squaremark.errors import InvalidSymbol

# The powers of 2 from the exponent 0 on, each symbol but 0 once. They stand here twice
# in a row, so that a sum or a difference of two exponents needs no reduction.
_POWERS = (
    1, 2, 4, 8, 3, 6, 12, 11, 5, 10, 7, 14, 15, 13, 9,
    1, 2, 4, 8, 3, 6, 12, 11, 5, 10, 7, 14, 15, 13, 9,
)
# The exponent that gives each symbol. The entry of 0 is never read: 0 is no power of 2.
_EXPONENTS = (0, 0, 1, 4, 2, 8, 5, 10, 3, 14, 9, 7, 6, 13, 11, 12)


def add(left, right):
    """Return the sum of two symbols."""
    _require_symbols(left, right)
    return left ^ right


def multiply(left, right):
    """Return the product of two symbols."""
    _require_symbols(left, right)
    return times(left, right)


def divide(left, right):
    """Return the symbol whose product with `right` is `left`."""
    _require_symbols(left, right)
    if right == 0:
        raise InvalidSymbol("division by 0")
    return over(left, right)


def is_number(value):
    """Return whether a value is an integer. True and False are not numbers."""
    return isinstance(value, int) and not isinstance(value, bool)


def is_symbol(value):
    """Return whether a value is a symbol."""
    return is_number(value) and 0 <= value <= 15


def times(left, right):
    """Return the product of what is known to be two symbols."""
    if left == 0 or right == 0:
        return 0
    return _POWERS[_EXPONENTS[left] + _EXPONENTS[right]]


def over(left, right):
    """Return the quotient of what is known to be two symbols, `right` not 0."""
    if left == 0:
        return 0
    return _POWERS[_EXPONENTS[left] - _EXPONENTS[right] + 15]


def _require_symbols(left, right):
    if not is_symbol(left) or not is_symbol(right):
        raise InvalidSymbol("a symbol is an integer from 0 to 15")
