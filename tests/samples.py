"""What the tests share: texts as lists of bytes, and the document's words told a second time, by plain search."""

import functools
import itertools
import random

from halfseendesk.plates import draw, many, nth

LIGHT_PLAIN = 0xFEDCBA9876543210
LIGHT_PLAIN_WORD = "0123456789abcdef"

LOCKER_LINES = (
    "locker DESK",
    "sign A 3 square 0123456789abcdef",
    "sign B 1 tails ffff0000ffff0000",
    "sign C 8 long 0011223344556677",
    "same 1 2 square 1111222233334444",
    "same 3 1 tails 89ab89ab89ab89ab",
    "answer 2 long fedcba9876543210",
)
A, B, C, SAME_1, SAME_3, ANSWER = range(6)
BLOT = ("shape?", "????", "????", "????", "????")


def text(*lines):
    """The bytes of these lines, each with the byte 10 behind it."""
    return list("".join(line + "\n" for line in lines).encode("latin-1"))


def lines_of(written_text):
    return bytes(written_text).decode("latin-1").split("\n")[:-1]


def locker():
    return text(*LOCKER_LINES)


def book(*entries, name="BOOK", of="DESK"):
    """A book's text; an entry that has no meaning gets one."""
    return text("book " + name, "for " + of, *[entry if " " in entry else entry + " m" for entry in entries])


def many_signs(many, copies=1):
    """The lines of so many signs that all look different, named A, B, .. and then S26, S27, .."""
    names = [chr(65 + number) if number < 26 else f"S{number}" for number in range(many)]
    return [f"sign {name} {copies} square {number:016x}" for number, name in enumerate(names)]


def flag_lines(shape="square", cells=("0123", "4567", "89ab", "cdef")):
    return [shape, *cells]


def hoist_lines(flags=1, ends=""):
    return ["hoist" + ends] + flag_lines() * flags


def plate_lines(*flags_of_hoists, side="front"):
    lines = [f"seen {side} {LIGHT_PLAIN_WORD}"]
    for flags in flags_of_hoists:
        lines += hoist_lines(flags)
    return lines


def blotted(*hoists, side="front"):
    """The plate on which nothing was made out of these hoists: how many flags, or that and the ends."""
    lines = [f"seen {side} {LIGHT_PLAIN_WORD}"]
    for hoist in hoists:
        flags, ends = hoist if isinstance(hoist, tuple) else (hoist, "")
        lines += ["hoist" + ends, *BLOT * flags]
    return text(*lines)


def written(answer):
    """The lines of the text that draw told, checked against the number before it."""
    assert answer[0] == len(answer) - 1, answer[0]
    told = bytes(answer[1:]).decode("ascii")
    assert told.endswith("\n"), told
    return told[:-1].split("\n")


def numbers_of(hoists):
    """The numbers of a showing."""
    numbers = [len(hoists)]
    for hoist in hoists:
        numbers += [len(hoist), *hoist]
    return numbers


def kinds_of(t):
    """Of each kind of a locker's text: its role, its name, its number K, its copies, its shape and its look."""
    kinds = []
    for line in lines_of(t)[1:]:
        role, *named, copies, shape, look = line.split(" ")
        name = named[0] if role == "sign" else ""
        which = int(named[0]) if role == "same" else 0
        kinds.append((role, name, which, int(copies), shape, look))
    return tuple(kinds)


def meant(kinds, hoist):
    row = []
    for flag in hoist:
        role, name, which, *rest = kinds[flag]
        if role == "sign":
            row.append(flag)
        elif role == "same" and which <= len(row):
            row.append(row[which - 1])
        else:
            return None
    return tuple(row)


@functools.lru_cache(None)
def hoists_that_mean(kinds, row):
    hoists = [()]
    for length in range(1, len(row) + 1):
        longer = [(*hoist, flag) for hoist in hoists for flag in range(len(kinds))]
        hoists = [hoist for hoist in longer if meant(kinds, hoist) == row[:length]]
    return hoists


def displays_of(kinds, rows):
    """Every display that shows the rows."""
    for hoists in itertools.product(*[hoists_that_mean(kinds, tuple(row)) for row in rows]):
        flags = sum(hoists, ())
        if all(flags.count(number) <= kind[3] for number, kind in enumerate(kinds)):
            yield hoists


def plain_display(kinds, rows):
    """The display told of the rows, as lists, or None."""
    def key(hoists):
        flags = sum(hoists, ())
        return len([flag for flag in flags if kinds[flag][0] == "same"]), flags

    told = min(displays_of(kinds, rows), key=key, default=None)
    return None if told is None else [list(hoist) for hoist in told]


def rows_of_book(kinds, b):
    names = {kind[1]: number for number, kind in enumerate(kinds) if kind[0] == "sign"}
    return [tuple(names[name] for name in line.split(" ")[0].split(".")) for line in lines_of(b)[2:]]


def read_plainly(p):
    """A plate's side, light and glimpses: whether above, whether below, and of each flag shape and cells."""
    first, *lines = lines_of(p)
    glimpses = []
    while lines:
        line = lines.pop(0)
        if line.startswith("hoist"):
            glimpses.append(("above" in line, "below" in line, []))
        else:
            glimpses[-1][2].append((line, "".join(lines[:4])))
            lines = lines[4:]
    return first.split(" ")[1], first.split(" ")[2], glimpses


def write_plainly(side, light, glimpses):
    lines = [f"seen {side} {light}"]
    for above, below, flags in glimpses:
        lines.append("hoist" + " above" * above + " below" * below)
        for shape, cells in flags:
            lines += [shape, cells[:4], cells[4:8], cells[8:12], cells[12:]]
    return text(*lines)


def from_behind(cells):
    return "".join(cells[start:start + 4][::-1] for start in (0, 4, 8, 12))


def face(kind, light, side):
    """Shape and cells of a kind in a light, from a side."""
    seen = "".join(light[int(colour, 16)] for colour in kind[5])
    return kind[4], from_behind(seen) if side == "behind" else seen


def looks_so(half, whole):
    if half[0] not in ("shape?", whole[0]):
        return False
    return all(seen in ("?", cell) for seen, cell in zip(half[1], whole[1]))


def fits_plainly(hoist_faces, glimpse):
    above, below, flags = glimpse
    for place in range(len(hoist_faces) - len(flags) + 1):
        part = hoist_faces[place:place + len(flags)]
        at_top, at_end = place == 0, place + len(flags) == len(hoist_faces)
        if (at_top or above) and (at_end or below) and all(map(looks_so, flags, part)):
            return True
    return False


def plain_readings(t, b, p):
    """All readings: the entries' numbers, the display shown of them, and the sides it may have been seen from."""
    kinds = kinds_of(t)
    rows = rows_of_book(kinds, b)
    side, light, glimpses = read_plainly(p)
    readings = []
    for numbers in itertools.product(range(len(rows)), repeat=len(glimpses)):
        lengths = [len(rows[number]) for number in numbers]
        if any(length < len(glimpse[2]) for length, glimpse in zip(lengths, glimpses)):
            continue
        hoists = plain_display(kinds, [rows[number] for number in numbers])
        sides = []
        for asked in ("front", "behind") if side == "unknown" else (side,):
            faces = [[face(kinds[flag], light, asked) for flag in hoist] for hoist in hoists or []]
            if hoists and all(map(fits_plainly, faces, glimpses)):
                sides.append(asked)
        if sides:
            readings.append((list(numbers), hoists, sides))
    return readings


def plain_ask(t, b, p):
    """What ask answers, but for the refusals that all calls have, by trying all choices of flags."""
    side, light, glimpses = read_plainly(p)
    readings = plain_readings(t, b, p)
    places = [(j, place) for j, glimpse in enumerate(glimpses) for place in range(len(glimpse[2]))]
    if any(above or below for above, below, flags in glimpses):
        return [-3]
    if not readings:
        return [-5]
    if len(places) > 12 or len(readings) > 64:
        return [-7]
    kinds = kinds_of(t)
    looks = [(numbers, [face(kinds[hoists[j][place]], light, seen_from) for j, place in places])
             for numbers, hoists, sides in readings for seen_from in sides]
    for size in range(len(places) + 1):
        settling = [choice for choice in itertools.combinations(range(len(places)), size)
                    if all(one[0] == other[0] or any(one[1][k] != other[1][k] for k in choice)
                           for one, other in itertools.combinations(looks, 2))]
        if settling:
            return [size, min(sum(1 << 8 * places[k][0] + places[k][1] for k in choice) for choice in settling)]
    return [-10]


def looked_at(t, p, hoists, side, choice):
    """The plate with the flags of these bits wholly made out, as they look in that display from that side."""
    plate_side, light, glimpses = read_plainly(p)
    kinds = kinds_of(t)
    seen = [(above, below, [
        face(kinds[hoists[j][place]], light, side) if choice >> 8 * j + place & 1 else flag
        for place, flag in enumerate(flags)]) for j, (above, below, flags) in enumerate(glimpses)]
    return write_plainly(plate_side, light, seen)


def all_left(t, b, p, choice):
    """Of each reading, from each side that it may have been seen from: it, and the readings left behind these flags."""
    for numbers, hoists, sides in plain_readings(t, b, p):
        for side in sides:
            yield numbers, told_readings(t, b, looked_at(t, p, hoists, side, choice))


def plain_says(b, numbers):
    """What says answers of the reading of these entries, by the book's text."""
    meanings = [lines_of(b)[2 + number].split(" ", 1)[1] for number in numbers]
    if "spell" in meanings or "more" in meanings:
        return [-5]
    told = " ".join(meanings)
    return [len(told), *told.encode("latin-1")]


def told_readings(t, b, p):
    """The readings by many and nth; or the refusal."""
    answer = many(t, b, p)
    if answer[0] != 0:
        return answer
    return [nth(i, t, b, p)[1:] for i in range(answer[1])]


def random_locker(chance, copies):
    """A small locker whose kinds look much alike: few colours, most cells of one, some kinds others from behind."""
    faces = set()
    while len(faces) < 6:
        cells = ["0"] * 16
        for cell in chance.sample(range(16), 2):
            cells[cell] = chance.choice("012")
        shape = chance.choice(["square", "tails"])
        faces.add((shape, "".join(cells)))
        if chance.random() < 0.4:
            faces.add((shape, from_behind("".join(cells))))
    faces = chance.sample(sorted(faces), 6)
    lines = ["locker DESK"]
    for name in "ABC"[:chance.choice([1, 2, 2, 3, 3])]:
        lines.append(f"sign {name} {chance.randint(1, copies)} {' '.join(faces.pop())}")
    for which in sorted(chance.sample(range(1, 5), chance.randint(0, 2))):
        lines.append(f"same {which} {chance.randint(1, copies)} {' '.join(faces.pop())}")
    if chance.random() < 0.3:
        lines.append(f"answer 1 {' '.join(faces.pop())}")
    return text(*lines)


def random_book(chance, t, entries, longest=4):
    kinds = kinds_of(t)
    signs = [number for number, kind in enumerate(kinds) if kind[0] == "sign"]
    rows = [row for length in range(1, longest + 1) for row in itertools.product(signs, repeat=length)]
    shown = [row for row in rows if any(True for display in displays_of(kinds, [row]))]
    kept = sorted(chance.sample(shown, min(entries, len(shown))), key=lambda row: (len(row), row))
    return book(*[".".join(kinds[sign][1] for sign in row) for row in kept])


def with_meanings(chance, b):
    """The book with other meanings, among them those of which nothing is told."""
    meanings = ("come", "go", "on and on", "spell", "more", "spell it", "no more", "!", "m" * 64)
    return book(*[line.split(" ")[0] + " " + chance.choice(meanings) for line in lines_of(b)[2:]])


def random_light(chance):
    return "".join(chance.choice("01") if chance.random() < 0.3 else f"{colour:x}" for colour in range(16))


def light_number(light):
    return sum(int(sign, 16) << 4 * colour for colour, sign in enumerate(light))


def blot(chance, p, how_much, cuts=True):
    """The plate with some of it not made out any more."""
    side, light, glimpses = read_plainly(p)
    if chance.random() < how_much:
        side = "unknown"
    less = []
    for above, below, flags in glimpses:
        if cuts and chance.random() < how_much:
            above, flags = True, flags[chance.randrange(len(flags)):]
        if cuts and chance.random() < how_much:
            below, flags = True, flags[:chance.randint(1, len(flags))]
        less.append((above, below, [
            ("shape?" if chance.random() < how_much else shape,
             "".join("?" if chance.random() < how_much else cell for cell in cells))
            for shape, cells in flags]))
    return write_plainly(side, light, less)


def random_showing(chance, t, b, hoists):
    """Entries of a book that some display shows, and that display; or None, where luck found none."""
    kinds, rows = kinds_of(t), rows_of_book(kinds_of(t), b)
    for attempt in range(10):
        numbers = [chance.randrange(len(rows)) for hoist in range(hoists)]
        display = plain_display(kinds, [rows[number] for number in numbers])
        if display:
            return numbers, display
    return None


def showings(seed, trials, entries=8, copies=2):
    """Lockers, books, entries of these, and the whole plate drawn of their showing in some light from some side."""
    chance = random.Random(seed)
    for trial in range(trials):
        t = random_locker(chance, copies)
        hoists = chance.choice([1, 1, 2, 2, 3])
        b = random_book(chance, t, entries, 4 if hoists < 3 else 3)
        shown = random_showing(chance, t, b, hoists)
        if shown is not None:
            light = random_light(chance)
            side = chance.randrange(2)
            p = draw(light_number(light), side, t, numbers_of(shown[1]))[1:]
            yield chance, t, b, p, shown[0]
