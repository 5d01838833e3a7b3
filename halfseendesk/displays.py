"""Displays: the one that is told of rows, with the fewest sames."""

from halfseendesk.lockers import SAME


# What is still to be hung, for the signs that lack copies. A group is a choice of the locker's
# sames, as bits; gaps and spares have one number for each group.
# A gap is how many more sames a sign needs than it has places left where one outside the group
# may stand: so many must come out of the group. A spare is how many copies the group has left
# behind all gaps above 0. By Hall's theorem the rows can be shown just if no spare is below 0.
class Plan:
    def __init__(self, sames, gaps, spares):
        self.sames = sames
        self.gaps = gaps
        self.spares = spares


# None: no display shows the rows. The fewest sames are as many as there are copies too few: where
# more hang, a sign of which a copy is left can hang in the place of one.
def display_told(kinds, rows):
    lacks = copies_lacking(kinds, rows)
    if lacks == {}:
        return [list(row) for row in rows]
    sames = [number for number, kind in enumerate(kinds) if kind.role == SAME]
    stands = [sames_along(kinds, sames, row) for row in rows]
    plan = plan_of(kinds, sames, lacks, places_of(rows, stands))
    if min(plan.spares) < 0:
        return None
    return [hoist_told(plan, row, stands[number]) for number, row in enumerate(rows)]


def copies_lacking(kinds, rows):
    used = {}
    for row in rows:
        for sign in row:
            used[sign] = used.get(sign, 0) + 1
    return dict([(sign, times - kinds[sign].copies) for sign, times in used.items() if times > kinds[sign].copies])


# Of each place of the row the sames that may stand there, as bits.
def sames_along(kinds, sames, row):
    return [bits_of_sames(kinds, sames, row, above) for above in range(len(row))]


def bits_of_sames(kinds, sames, row, above):
    whiches = [kinds[number].which for number in sames]
    return sum([1 << bit for bit, which in enumerate(whiches) if which <= above and row[which - 1] == row[above]])


# Of each sign the bits of its places.
def places_of(rows, stands):
    places = {}
    for row, bits in zip(rows, stands):
        for sign, here in zip(row, bits):
            places.setdefault(sign, []).append(here)
    return places


def plan_of(kinds, sames, lacks, places):
    groups = list(range(1 << len(sames)))
    gaps = {}
    for sign, lack in lacks.items():
        gaps[sign] = [lack - places_outside(group, places[sign]) for group in groups]
    spares = [copies_in(group, kinds, sames) for group in groups]
    for own in gaps.values():
        spares = [spares[group] - max(0, own[group]) for group in groups]
    return Plan(sames, gaps, spares)


def places_outside(group, places):
    return len([bits for bits in places if bits & ~group])


def copies_in(group, kinds, sames):
    return sum([kinds[number].copies for bit, number in enumerate(sames) if group >> bit & 1])


def hoist_told(plan, row, stands):
    return [flag_told(plan, sign, stands[place]) for place, sign in enumerate(row)]


# Signs have lesser numbers than sames: the first flag that leaves a display is the least. Some flag
# always does, since ahead of each place a display is left.
def flag_told(plan, sign, bits):
    if sign not in plan.gaps or hang(plan, sign, bits, 0):
        return sign
    places = [place for place in range(len(plan.sames)) if bits >> place & 1]
    tried = 0
    while not hang(plan, sign, bits, 1 << places[tried]):
        tried += 1
    return plan.sames[places[tried]]


# Hangs the same of that bit, or the sign itself if it's 0, where the sames of these bits may stand;
# unless no display would be left: then the plan stays as it was.
def hang(plan, sign, bits, same):
    before = plan.gaps[sign]
    needs = -1 if same else 0
    gaps = [gap + needs + (1 if bits & ~group else 0) for group, gap in enumerate(before)]
    spares = [
        spare + max(0, before[group]) - max(0, gaps[group]) - (1 if group & same else 0)
        for group, spare in enumerate(plan.spares)
    ]
    if min(spares) < 0:
        return False
    plan.gaps[sign] = gaps
    plan.spares = spares
    return True
