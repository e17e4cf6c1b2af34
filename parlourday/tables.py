"""Tables of all beats: for each standing that is met, what its beats lead to, and what they tell.

A table is a dict with the standings, ascending, as keys, and lists of beats as values; a beat is a
tuple that begins with the standing after it. All that can come has an index there: comers, or how many ask.
"""

from parlourday.errors import TooMany
from parlourday.graphs import search, walk_back


def table_of(start, beats_from, most=None):
    """The table of all standings met from a start; TooMany if there are more than most of them."""
    table = {}
    found = [start]
    known = {start: True}
    at = 0
    while at < len(found):
        place = found[at]
        at += 1
        table[place] = beats_from(place)
        for beat in table[place]:
            if beat[0] not in known:
                known[beat[0]] = True
                found.append(beat[0])
        if most is not None and len(found) > most:
            raise TooMany(f"more than {most} can come")
    return {place: table[place] for place in sorted(found)}


def pair_table(table, start, other, beside, most=None):
    """The table of the pairs that two tables come to from two starts by the same.

    Its beats are ((after, other after), beat, other beat).
    """

    def beats_from(pair):
        return [
            ((beat[0], twin[0]), beat, twin)
            for beat, twin in zip(table[pair[0]], other[pair[1]])
        ]

    return table_of((start, beside), beats_from, most)


def steps_of(table, start):
    """How each place of a table is first met from a start."""
    return search(start, lambda place: [beat[0] for beat in table[place]])


def first_beat(table, start, fits):
    """The first shortest list of indexes, as lists compare, whose last beat fits, None if there is none."""
    steps = steps_of(table, start)
    for place in steps:
        for index, beat in enumerate(table[place]):
            if fits(beat):
                return walk_back(steps, place) + [index]
    return None


def table_web(table, weigh):
    """The web of a table: its places as nodes, as they are ordered, each beat with its weight."""
    nodes = {place: node for node, place in enumerate(table)}
    return tuple([
        tuple([(weigh(beat), nodes[beat[0]]) for beat in beats])
        for beats in table.values()
    ])


def used_in(table, used):
    """The list of all indexes of rows that some beat of the table carries out, as used tells of a beat."""
    found = {}
    for beats in table.values():
        for beat in beats:
            for index in used(beat):
                found[index] = True
    return sorted(found)


def classes_of(table):
    """The ascending list of the ascending lists of places that nothing that their beats tell tells apart.

    What a beat tells is its second part.
    """
    words = {}
    for beats in table.values():
        for beat in beats:
            words.setdefault(beat[1], len(words))
    marks = {place: 0 for place in table}
    count = 0
    while True:
        signs = {}
        for place, beats in table.items():
            sign = (marks[place], tuple([(words[beat[1]], marks[beat[0]]) for beat in beats]))
            signs.setdefault(sign, []).append(place)
        if len(signs) == count:
            return sorted(list(signs.values()))
        count = len(signs)
        marks = {place: mark for mark, members in enumerate(signs.values()) for place in members}


def hopes(told, wanted):
    """For 0 to as many beats as are wanted, from the last one back, the places from which the rest can come.

    told has, for each place, the list of what its beats tell and lead to.
    """
    lines = [{place: True for place in told}]
    for want in wanted[::-1]:
        ahead = lines[-1]
        lines.append({
            place: True for place, beats in told.items()
            if any([word == want and after in ahead for word, after in beats])
        })
    return lines


def first_with(table, start, wanted, tell):
    """The first list of indexes, as lists compare, of which each beat tells just what is wanted of it.

    None if there is none.
    """
    told = {place: [(tell(beat), beat[0]) for beat in beats] for place, beats in table.items()}
    lines = hopes(told, wanted)
    if start not in lines[-1]:
        return None
    place = start
    found = []
    for at, want in enumerate(wanted):
        ahead = lines[len(wanted) - at - 1]
        fits = [index for index, (word, after) in enumerate(told[place]) if word == want and after in ahead]
        found.append(fits[0])
        place = told[place][fits[0]][1]
    return found
