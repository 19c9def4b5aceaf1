"""The tests of squaremark."""
