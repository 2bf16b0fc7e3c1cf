"""Live pictures, which take looks one by one and give them back."""

from seenposts.back import fits
from seenposts.errors import NothingToUndo, Taken, Wrong
from seenposts.forced import check_possible, status
from seenposts.pictures import Picture, check_word
from seenposts.places import check_place


def with_look(picture, place, word):
    """Return a picture with one more place, if it could be told so."""
    check_place(place, picture.size)
    check_word(word)
    if place in picture:
        raise Taken(place)
    seen, hidden = ([place], []) if word == "seen" else ([], [place])
    return picture | Picture(picture.size, seen, hidden)


class Window:
    """A live picture, with the looks that made it in their order."""

    def __init__(self, size):
        self._picture = Picture(size, [], [])
        self._looks = []
        self._shift = None

    def __call__(self, place, word):
        """Add a place."""
        self.add_all([(place, word)])

    @property
    def picture(self):
        """The picture of all places that were added and not taken back."""
        return self._picture

    @property
    def looks(self):
        """The looks in their order, in a new list."""
        return list(self._looks)

    def word_at(self, place):
        """Return "seen" or "hidden" if a place is told or forced so, otherwise "open"."""
        return status(self._picture, place)

    def add_all(self, looks):
        """Add the looks of a list, or none of them if one raises an error."""
        picture = self._picture
        for place, word in looks:
            picture = with_look(picture, place, word)
            check_possible(picture)
        self.keep(picture, looks)

    def keep(self, picture, looks):
        """Go over to a picture to which further looks led."""
        self._picture = picture
        self._looks = self._looks + looks

    def undo(self):
        """Take back the last look."""
        if len(self._looks) == 0:
            raise NothingToUndo(0)
        place, _ = self._looks[-1]
        self._picture = self._picture - Picture(self._picture.size, [place], [])
        self._looks = self._looks[:-1]

    def __len__(self):
        return len(self._looks)

    def __eq__(self, other):
        # The shift is None for a window without one, so that it is never equal to a placed one.
        if not isinstance(other, Window) or self._shift != other._shift:
            return False
        return self._picture.size == other._picture.size and self._looks == other._looks


class PlacedWindow(Window):
    """A window at a shift, which takes only looks that are right there."""

    def __init__(self, shift):
        Window.__init__(self, len(shift))
        self._shift = shift

    def __call__(self, place, word):
        """Add a place."""
        self.add_all([(place, word)])

    @property
    def shift(self):
        """The shift of the window."""
        return self._shift

    def add_all(self, looks):
        """Add the looks of a list, or none of them if one raises an error."""
        picture = self._picture
        for place, word in looks:
            picture = with_look(picture, place, word)
            if not fits(self._shift, (place, word)):
                raise Wrong(place)
        self.keep(picture, looks)

    def __eq__(self, other):
        if not isinstance(other, PlacedWindow):
            return False
        return self._shift == other._shift and self._looks == other._looks
