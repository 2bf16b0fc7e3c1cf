"""Pictures: which places, of some near one another, are seen and which are hidden."""

from seenposts.arithmetic import added, image, keeps_posts, least_corner
from seenposts.errors import Conflict, DoublePlace, InvalidMatrix, InvalidSize, InvalidWord
from seenposts.places import check_place


def check_size(size):
    """Raise an error if pictures have not this size."""
    if size not in (2, 3):
        raise InvalidSize(size)


def check_word(word):
    """Raise an error if a word does not tell how a place stands."""
    if word not in ("seen", "hidden"):
        raise InvalidWord(word)


def words_of(size, seen, hidden):
    """Return the word of each place, in a new dict, if every place is told once."""
    words = {}
    for places, word in ((seen, "seen"), (hidden, "hidden")):
        for place in places:
            check_place(place, size)
            if place in words:
                raise DoublePlace(place)
            words[place] = word
    return words


class Picture:
    """Seen and hidden places of one size, none of them in both; it never changes."""

    def __init__(self, size, seen, hidden):
        check_size(size)
        self._words = words_of(size, seen, hidden)
        self._size = size
        self._seen = sorted(seen)
        self._hidden = sorted(hidden)

    @property
    def size(self):
        """The number of coordinates of each place."""
        return self._size

    @property
    def seen(self):
        """The seen places, ascending, in a new list."""
        return list(self._seen)

    @property
    def hidden(self):
        """The hidden places, ascending, in a new list."""
        return list(self._hidden)

    def word(self, place):
        """Return "seen" or "hidden", as the picture tells it of a place, None if it does not."""
        return self._words.get(place)

    def shifted(self, shift):
        """Return the picture with a shift added to each place."""
        check_place(shift, self._size)
        seen = [added(place, shift) for place in self._seen]
        hidden = [added(place, shift) for place in self._hidden]
        return Picture(self._size, seen, hidden)

    def mapped(self, rows):
        """Return the picture with each place led elsewhere by a matrix that keeps the posts."""
        if not keeps_posts(rows, self._size):
            raise InvalidMatrix([list(row) for row in rows])
        seen = [image(rows, place) for place in self._seen]
        hidden = [image(rows, place) for place in self._hidden]
        return Picture(self._size, seen, hidden)

    def least(self):
        """Return the picture shifted so that the least value of each coordinate is 0."""
        if len(self._words) == 0:
            return self
        return self.shifted(tuple([-low for low in least_corner(self._seen + self._hidden)]))

    def __or__(self, other):
        """Return the picture with the places of both."""
        if other.size != self._size:
            raise InvalidSize(other.size)
        for place in sorted(self._words):
            if place in other._words and other._words[place] != self._words[place]:
                raise Conflict(place)
        seen = [place for place in other._seen if place not in self._words]
        hidden = [place for place in other._hidden if place not in self._words]
        return Picture(self._size, self._seen + seen, self._hidden + hidden)

    def __sub__(self, other):
        """Return the picture without the places that the other one tells."""
        if other.size != self._size:
            raise InvalidSize(other.size)
        seen = [place for place in self._seen if place not in other._words]
        hidden = [place for place in self._hidden if place not in other._words]
        return Picture(self._size, seen, hidden)

    def __contains__(self, x):
        return x in self._words

    def __len__(self):
        return len(self._words)

    def __eq__(self, other):
        if not isinstance(other, Picture):
            return False
        return self._size == other._size and self._words == other._words
