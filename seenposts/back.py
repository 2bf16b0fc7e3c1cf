"""Places found again: which of some shifts it is, from what is seen."""

from seenposts.arithmetic import added, places_in
from seenposts.pictures import check_word
from seenposts.places import check_any_place, check_place, is_seen


def check_shifts(shifts):
    """Raise an error for the first shift that is none or that is not of the size of the first one."""
    for shift in shifts:
        check_any_place(shift)
        check_place(shift, len(shifts[0]))


def check_both(shifts, places):
    """Raise an error for the first wrong shift, or for the first place of another size than these."""
    check_shifts(shifts)
    if len(shifts) > 0:
        for place in places:
            check_place(place, len(shifts[0]))


def fits(shift, look):
    """Return True if a place plus a shift stands as a look tells it, otherwise False."""
    place, word = look
    return is_seen(added(place, shift)) == (word == "seen")


def fitting(shifts, looks):
    """Return the shifts that fit to all looks."""
    check_shifts(shifts)
    if len(shifts) > 0:
        for place, word in looks:
            check_place(place, len(shifts[0]))
            check_word(word)
    return [shift for shift in shifts if all([fits(shift, look) for look in looks])]


def most_left(shifts, place):
    """Return how many shifts may be left, at the most, when a place is looked at."""
    seen = len([shift for shift in shifts if fits(shift, (place, "seen"))])
    return max(seen, len(shifts) - seen)


def best_look(shifts, places):
    """Return the first place at which a look surely leaves the fewest shifts, None if there is none."""
    check_both(shifts, places)
    if len(places) == 0:
        return None
    numbers = [most_left(shifts, place) for place in places]
    return places[numbers.index(min(numbers))]


def parting(one, other, low, high):
    """Return the first place of a box that is seen with one of two shifts alone, or None."""
    check_both([one, other], [low, high])
    for place in places_in(low, high):
        if is_seen(added(place, one)) != is_seen(added(place, other)):
            return place
    return None


def seen_mask(shifts, place):
    """Return an integer with a bit for each shift with which a place is seen."""
    mask = 0
    for at, shift in enumerate(shifts):
        if fits(shift, (place, "seen")):
            mask += 1 << at
    return mask


def best_way(shifts, places):
    """Return a tuple of the least number of looks and a plan with them, None if there is none."""
    check_both(shifts, places)
    masks = [(place, seen_mask(shifts, place)) for place in places]
    found = {}
    # A set of shifts is an integer with a bit for each one; its parts are less than it is, so the
    # plans for them are known before they are needed.
    for some in range(1, 1 << len(shifts)):
        if (some & (some - 1)) == 0:
            found[some] = (0, ("shift", shifts[some.bit_length() - 1]))
        for place, mask in masks:
            seen, hidden = some & mask, some & ~mask
            if seen in found and hidden in found:
                many = 1 + max(found[seen][0], found[hidden][0])
                if some not in found or many < found[some][0]:
                    found[some] = (many, ("look", place, found[seen][1], found[hidden][1]))
    return found.get((1 << len(shifts)) - 1)


def looks_needed(shifts, places):
    """Return the least number of looks that surely leave one shift, None if none do."""
    found = best_way(shifts, places)
    return None if found is None else found[0]


def look_plan(shifts, places):
    """Return a plan that leads each shift to itself with the fewest looks, None if there is none."""
    found = best_way(shifts, places)
    return None if found is None else found[1]


def leads(plan, shift):
    """Return True if a plan leads a shift to itself, otherwise False."""
    while plan is not None and plan[0] == "look":
        place, if_seen, if_hidden = plan[1:]
        # A look at a place of another size leads nowhere.
        if len(place) != len(shift):
            return False
        plan = if_seen if is_seen(added(place, shift)) else if_hidden
    return plan == ("shift", shift)


def judge_plan(shifts, told):
    """Return True if a plan leads each of the shifts to itself, otherwise False."""
    check_shifts(shifts)
    return all([leads(told, shift) for shift in shifts])
