"""The numbers with which a system has no gain by a trick."""

from trickfares.errors import TooLarge
from trickfares.texts import BOUNDS
from trickfares.tricks import gain


def _bounds(word):
    """The least and the greatest number that a text form may have for a word of with_number."""
    if word == "price":
        return BOUNDS["ride"][0]
    # The number for each other word is the last one of its row.
    return BOUNDS["ride" if word == "peak" else word][-1]


def _is_safe(system, trick, word, number, kind):
    """Whether the system with this number has a net for the trick, and no positive gain in it."""
    try:
        told = gain(system.with_number(word, number, kind=kind), trick)
    except TooLarge:
        return False
    return told is not None and told <= 0


def safe_values(system, trick, word, *, kind=None):
    """The ascending list of the numbers for a word with which the system has no positive gain by the trick."""
    low, high = _bounds(word)
    return [number for number in range(low, high + 1) if _is_safe(system, trick, word, number, kind)]
