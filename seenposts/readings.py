"""Places, pictures and lines read from their texts."""

from seenposts.arithmetic import common_divisor
from seenposts.errors import Unreadable
from seenposts.lines import Line
from seenposts.pictures import Picture

MOST_DIGITS = 60


def integer_of(text):
    """Return the integer with a text, None if there is none."""
    digits = text.removeprefix("-")
    if not digits.isascii() or not digits.isdigit() or len(digits) > MOST_DIGITS:
        return None
    # An integer has only one text: without zeros ahead, and without a minus sign ahead of 0.
    return int(text) if str(int(text)) == text else None


def place_of(text):
    """Return the place with a text, None if there is none."""
    if not text.startswith("(") or not text.endswith(")"):
        return None
    numbers = [integer_of(word) for word in text[1:-1].split(",")]
    if len(numbers) not in (2, 3) or None in numbers:
        return None
    return tuple(numbers)


def are_places(places, size):
    """Return True if all entries of a list are places of a size, in ascending order."""
    if any([place is None or len(place) != size for place in places]):
        return False
    return all([one < other for one, other in zip(places, places[1:])])


def picture_of(size, seen_words, hidden_words):
    """Return the picture with the texts of its seen and hidden places, None if there is none."""
    seen = [place_of(word) for word in seen_words]
    hidden = [place_of(word) for word in hidden_words]
    if not are_places(seen, size) or not are_places(hidden, size):
        return None
    told = {place: True for place in seen}
    if any([place in told for place in hidden]):
        return None
    return Picture(size, seen, hidden)


def read_place(text):
    """Return the place with a text."""
    place = place_of(text)
    if place is None:
        raise Unreadable(text)
    return place


def read_picture(text):
    """Return the picture with a text."""
    words = text.split(" ")
    if words[0] not in ("2", "3") or words[1:2] != ["seen"] or "hidden" not in words:
        raise Unreadable(text)
    middle = words.index("hidden")
    picture = picture_of(int(words[0]), words[2:middle], words[middle + 1:])
    if picture is None:
        raise Unreadable(text)
    return picture


def read_line(text):
    """Return the line with a text."""
    words = text.split(" ")
    if len(words) != 3 or words[1] != "by":
        raise Unreadable(text)
    start, step = place_of(words[0]), place_of(words[2])
    if start is None or step is None or len(start) != len(step) or common_divisor(step) != 1:
        raise Unreadable(text)
    return Line(start, step)
