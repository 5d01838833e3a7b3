"""What rows tell by a book, one after another."""

from halfseendesk.texts import BLANK, place_among

# The meanings that begin and carry on a spelled word: an entry with one of them tells nothing itself.
SPELLING = ("spell", "more")


class TellsNothing(Exception):
    pass


# Of entries' rows alone, as those of a reading are: only a row that is no entry's could spell a word.
def entries_tell(entries):
    text = []
    for entry in entries:
        if place_among(SPELLING, entry.meaning) is not None:
            raise TellsNothing()
        if text != []:
            text.append(BLANK)
        text.extend(entry.meaning)
    return text
