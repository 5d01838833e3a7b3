"""Texts that the tests share, and how they are told as lists of bytes."""

LIGHT_PLAIN = 0xFEDCBA9876543210
LIGHT_PLAIN_WORD = "0123456789abcdef"

LOCKER_LINES = (
    "locker DESK",
    "sign A 3 square 0123456789abcdef",
    "sign B 1 tails ffff0000ffff0000",
    "sign C 8 long 0011223344556677",
    "same 1 2 square 1111222233334444",
    "same 3 1 tails 89ab89ab89ab89ab",
    "answer 2 long fedcba9876543210",
)
A, B, C, SAME_1, SAME_3, ANSWER = range(6)


def text(*lines):
    """The bytes of these lines, each with the byte 10 behind it."""
    return list("".join(line + "\n" for line in lines).encode("latin-1"))


def locker():
    return text(*LOCKER_LINES)


def flag_lines(shape="square", cells=("0123", "4567", "89ab", "cdef")):
    return [shape, *cells]


def hoist_lines(flags=1, ends=""):
    return ["hoist" + ends] + flag_lines() * flags


def plate_lines(*flags_of_hoists, side="front"):
    lines = [f"seen {side} {LIGHT_PLAIN_WORD}"]
    for flags in flags_of_hoists:
        lines += hoist_lines(flags)
    return lines


def written(answer):
    """The lines of the text that draw told, checked against the number before it."""
    assert answer[0] == len(answer) - 1, answer[0]
    told = bytes(answer[1:]).decode("ascii")
    assert told.endswith("\n"), told
    return told[:-1].split("\n")
