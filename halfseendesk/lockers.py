"""Lockers: the kinds of flags that there are, and the text that tells them."""

from halfseendesk.looks import SHAPES
from halfseendesk.texts import BLANK, cut, is_name, name_behind, place_among, read_colours, whole_lines

SIGN = 0
SAME = 1
ROLES = ("sign", "same", "answer")
WORDS_OF_ROLES = (5, 5, 4)
MOST_COPIES = 8
MOST_SAME = 4
MOST_SIGNS = 48
DIGIT_ZERO = 48


class NoLocker(Exception):
    pass


class Kind:
    # The name is a sign's and the number which is a same's; for other roles they are empty and 0.
    def __init__(self, role, name, which, copies, shape, look):
        self.role = role
        self.name = name
        self.which = which
        self.copies = copies
        self.shape = shape
        self.look = look


class Locker:
    def __init__(self, name, kinds):
        self.name = name
        self.kinds = kinds


def read_locker(text):
    lines = whole_lines(text)
    if lines is None or lines == []:
        raise NoLocker()
    name = name_behind("locker", lines[0])
    kinds = [read_kind(line) for line in lines[1:]]
    if name is None or not are_in_order(kinds) or not are_different(kinds):
        raise NoLocker()
    return Locker(name, kinds)


def read_name(word):
    if not is_name(word):
        raise NoLocker()
    return word


def read_digit(word, most):
    if len(word) != 1 or word[0] < DIGIT_ZERO + 1 or word[0] > DIGIT_ZERO + most:
        raise NoLocker()
    return word[0] - DIGIT_ZERO


def read_kind(line):
    words = cut(line, BLANK)
    role = place_among(ROLES, words[0])
    if role is None or len(words) != WORDS_OF_ROLES[role]:
        raise NoLocker()
    name = read_name(words[1]) if role == SIGN else []
    which = read_digit(words[1], MOST_SAME) if role == SAME else 0
    copies = read_digit(words[-3], MOST_COPIES)
    shape = place_among(SHAPES, words[-2])
    look = read_colours(words[-1])
    if shape is None or look is None:
        raise NoLocker()
    return Kind(role, name, which, copies, shape, look)


def are_in_order(kinds):
    signs = len([kind for kind in kinds if kind.role == SIGN])
    if signs < 1 or signs > MOST_SIGNS:
        return False
    return all([may_follow(kinds[place], kind) for place, kind in enumerate(kinds[1:])])


# Signs alone may follow one another freely: sames must rise, and a second answer never rises.
def may_follow(before, kind):
    if before.role == SIGN and kind.role == SIGN:
        return True
    return (before.role, before.which) < (kind.role, kind.which)


def are_different(kinds):
    names = [kind.name for kind in kinds if kind.role == SIGN]
    faces = [(kind.shape, kind.look) for kind in kinds]
    return not has_twice(names) and not has_twice(faces)


def has_twice(things):
    return any([thing in things[:place] for place, thing in enumerate(things)])
