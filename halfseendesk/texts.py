"""Texts as lists of bytes: how they are cut, and what their words and signs stand for."""

MOST_BYTES = 65536
LINE_END = 10
BLANK = 32
COLOUR_SIGNS = "0123456789abcdef"
NAME_SIGNS = "ABCDEFGHIJKLMNOPQRSTUVWXYZ0123456789"
LONGEST_NAME = 8


def spelled(written):
    return [ord(sign) for sign in written]


# What stands behind the last mark is a part too, perhaps an empty one: so no mark is lost, and
# marks at the ends or side by side leave empty parts, which no word and no line matches.
def cut(text, mark):
    parts = [[]]
    for byte in text:
        if byte == mark:
            parts.append([])
        else:
            parts[-1].append(byte)
    return parts


# None: there are bytes behind the last byte 10, a line that lacks its own.
def whole_lines(text):
    lines = cut(text, LINE_END)
    rest = lines.pop()
    return lines if rest == [] else None


def place_among(words, part):
    for place, word in enumerate(words):
        if spelled(word) == part:
            return place
    return None


def places_in(signs, part):
    known = spelled(signs)
    if not all([byte in known for byte in part]):
        return None
    return [known.index(byte) for byte in part]


def read_colours(part):
    if len(part) != 16:
        return None
    return places_in(COLOUR_SIGNS, part)


def is_name(part):
    return 1 <= len(part) <= LONGEST_NAME and places_in(NAME_SIGNS, part) is not None


# The name in a line of two words, of which the first is the title.
def name_behind(title, line):
    words = cut(line, BLANK)
    if len(words) != 2 or words[0] != spelled(title) or not is_name(words[1]):
        return None
    return words[1]
