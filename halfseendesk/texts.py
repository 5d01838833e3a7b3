"""Texts as lists of bytes: how they are cut, and what their words and signs stand for."""

MOST_BYTES = 65536
LINE_END = 10
BLANK = 32
COLOUR_SIGNS = "0123456789abcdef"


def spelled(written):
    return [ord(sign) for sign in written]


# What stands behind the last mark is a part too, perhaps an empty one: so no mark is lost, and
# marks at the ends or side by side leave empty parts, which no word and no line matches.
def cut(text, mark):
    parts = [[]]
    for byte in text:
        if byte == mark:
            parts.append([])
        else:
            parts[-1].append(byte)
    return parts


def place_among(words, part):
    for place, word in enumerate(words):
        if spelled(word) == part:
            return place
    return None


def places_in(signs, part):
    known = spelled(signs)
    if not all([byte in known for byte in part]):
        return None
    return [known.index(byte) for byte in part]


def read_colours(part):
    if len(part) != 16:
        return None
    return places_in(COLOUR_SIGNS, part)
