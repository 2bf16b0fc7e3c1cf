"""Places, pictures and lines as texts."""


def show_place(place):
    """Return the text of a place."""
    return "(" + ",".join([str(number) for number in place]) + ")"


def show_picture(picture):
    """Return the text of a picture."""
    words = [str(picture.size), "seen"] + [show_place(place) for place in picture.seen]
    return " ".join(words + ["hidden"] + [show_place(place) for place in picture.hidden])


def show_line(line):
    """Return the text of a line."""
    return show_place(line.start) + " by " + show_place(line.step)
