"""The names of checkpoints and of messages in scripts."""

_LETTERS = "abcdefghijklmnopqrstuvwxyz"
_LONGEST_NAME = 8


def is_name(value):
    """Return whether a value is a name: one to eight letters a to z."""
    if not isinstance(value, str) or not 1 <= len(value) <= _LONGEST_NAME:
        return False
    return all(letter in _LETTERS for letter in value)
