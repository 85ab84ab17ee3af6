"""The rows of the text form of a fare system."""

from trickfares.errors import InvalidText

# The words that a row may begin with, by the word of the row before it.
FOLLOWERS = {
    "": ("slots",),
    "slots": ("peak", "ride"),
    "peak": ("ride",),
    "ride": ("ride", "transfer", "cap", "bonus"),
    "transfer": ("cap", "bonus"),
    "cap": ("bonus",),
    "bonus": (),
}

# The least and the greatest number for each number of a row. The bounds of peak slots depend on the system.
BOUNDS = {
    "slots": ((1, 8),),
    "ride": ((0, 20), (0, 20)),
    "transfer": ((0, 4), (0, 20)),
    "cap": ((0, 20),),
    "bonus": ((2, 4),),
}

MOST_KINDS = 3


def number_in(word, low, high):
    """The number from low to high that the word writes, or None."""
    # Each number has one form, so comparing decides, and a word of thousands of digits need not be read.
    for number in range(low, high + 1):
        if word == str(number):
            return number
    return None


def _read_numbers(words, at):
    """A row whose words from a place on are its numbers, or None."""
    bounds = BOUNDS[words[0]]
    if len(words) != at + len(bounds):
        return None
    numbers = [number_in(word, low, high) for word, (low, high) in zip(words[at:], bounds)]
    return None if None in numbers else tuple(words[:at] + numbers)


def _read_peak(words, slots):
    """A row of peak slots, or None."""
    numbers = [number_in(word, 0, slots - 1) for word in words[1:]]
    if not numbers or None in numbers or numbers != sorted(set(numbers)):
        return None
    return tuple(["peak"] + numbers)


def _is_kind(word):
    return len(word) == 1 and "a" <= word <= "z"


def _read_ride(words, before):
    """A row of a kind that may stand behind the kinds of the rows before it, or None."""
    kinds = [row[1] for row in before if row[0] == "ride"]
    if len(kinds) == MOST_KINDS or len(words) < 2 or not _is_kind(words[1]):
        return None
    if kinds and words[1] <= kinds[-1]:
        return None
    return _read_numbers(words, 2)


def _read_row(words, before):
    """The row of these words behind the rows before it, or None if no text form has it there."""
    last = before[-1][0] if before else ""
    if words[0] not in FOLLOWERS[last]:
        return None
    if words[0] == "peak":
        return _read_peak(words, before[0][1])
    if words[0] == "ride":
        return _read_ride(words, before)
    return _read_numbers(words, 1)


def read_rows(text):
    """The rows of a text form, each a tuple of its words, with integers for its numbers."""
    rows = []
    for line in text.split("\n"):
        row = _read_row(line.split(" "), rows)
        if row is None:
            raise InvalidText(len(rows))
        rows.append(row)
    if rows[-1][0] in ("slots", "peak"):
        raise InvalidText(len(rows))
    return rows


def write_rows(rows):
    """The text form with these rows."""
    return "\n".join([" ".join([str(part) for part in row]) for row in rows])
