"""Showings: the numbers that tell one, and whether it can be made out of a locker."""

from halfseendesk.lockers import SAME, SIGN

MOST_HOISTS = 4
MOST_FLAGS = 8


class NoShowing(Exception):
    pass


def read_showing(locker, numbers):
    hoists = read_hoists(numbers)
    if not is_out_of(locker, hoists):
        raise NoShowing()
    return hoists


def read_hoists(numbers):
    many = read_count(numbers, 0, MOST_HOISTS)
    hoists = []
    place = 1
    while len(hoists) < many:
        end = place + 1 + read_count(numbers, place, MOST_FLAGS)
        hoists.append(numbers[place + 1:end])
        place = end
    # A slice stops short at the end of the numbers: then place lies behind it.
    if place != len(numbers):
        raise NoShowing()
    return hoists


def read_count(numbers, place, most):
    if place >= len(numbers) or numbers[place] < 1 or numbers[place] > most:
        raise NoShowing()
    return numbers[place]


def is_out_of(locker, hoists):
    if not all([means_a_row(locker.kinds, hoist) for hoist in hoists]):
        return False
    flags = []
    for hoist in hoists:
        flags.extend(hoist)
    return all([flags.count(number) <= kind.copies for number, kind in enumerate(locker.kinds)])


def means_a_row(kinds, hoist):
    if not all([flag < len(kinds) for flag in hoist]):
        return False
    return all([means_a_sign(kinds[flag], above) for above, flag in enumerate(hoist)])


# Above is how many flags hang above this one. Each of them means one sign where the hoist means
# something at all, so a same finds its sign just where there are as many as its number.
def means_a_sign(kind, above):
    if kind.role == SAME:
        return kind.which <= above
    return kind.role == SIGN
