"""Plain searches over two houses side by side, and over sets of standings. Nothing of the program is used here."""

from tests.plain_house import START, plain_count, small_houses, some_houses
from tests.plain_parlour import comers_of, house_beat, plain_web, rows_of, run, seats_beat, standings_by


def pair_beat(setup, rule, other, pair, comers):
    after, bill = house_beat(setup, rule, pair[0], comers)
    twin, beside = house_beat(setup, other, pair[1], comers)
    return (after, twin), (bill, beside)


def pairs_met(setup, rule, other, firsts=((START, START),), most=None):
    """All pairs of standings that come by the same rows; perhaps not all if there are more than most."""
    known, fresh = dict.fromkeys(firsts), list(firsts)
    while fresh and (most is None or len(known) <= most):
        pair = fresh.pop()
        for comers in comers_of(setup):
            after, _ = pair_beat(setup, rule, other, pair, comers)
            if after not in known:
                known[after] = None
                fresh.append(after)
    return sorted(known)


def plain_gap_web(setup, rule, other, what="cost"):
    """The web of pairs by how much more is counted by the first rule."""
    return plain_web(
        pairs_met(setup, rule, other),
        lambda pair: [pair_beat(setup, rule, other, pair, comers) for comers in comers_of(setup)],
        lambda bills: plain_count(setup, what, bills[0]) - plain_count(setup, what, bills[1]),
    )


def total(setup, rule, row, what="cost"):
    return sum(plain_count(setup, what, bill) for bill in run(setup, rule[0], row, rule[1])[1])


def with_one_more(row, place):
    groups, singles = row[place]
    return row[:place] + [(groups, singles + 1)] + row[place + 1:]


def growths(setup, rule, row):
    """The list of (place, growth) for all places of a row where one more single may come."""
    plain = total(setup, rule, row)
    places = [place for place, (_, singles) in enumerate(row) if singles < setup[3][1]]
    return [(place, total(setup, rule, with_one_more(row, place)) - plain) for place in places]


def single_pairs(setup, rule, met):
    """The pairs at the end of the beat of one more single, with the growth of the cost of that beat."""
    found = []
    for standing in met:
        for groups, singles in comers_of(setup):
            if singles < setup[3][1]:
                after, bill = house_beat(setup, rule, standing, (groups, singles))
                twin, more = house_beat(setup, rule, standing, (groups, singles + 1))
                found.append(((after, twin), plain_count(setup, "cost", more) - plain_count(setup, "cost", bill)))
    return found


def sets_met(told, first, most=None):
    """For each set that comes from a first one the first shortest list of words: told(node) lists (word, node)."""
    known, level = {first: []}, {first: []}
    while level and (most is None or len(known) <= most):
        further = {}
        for members, words in sorted(level.items(), key=lambda item: item[1]):
            behind = {}
            for member in members:
                for word, after in told(member):
                    behind.setdefault(word, set()).add(after)
            for word in sorted(behind):
                after = frozenset(behind[word])
                if after not in known and after not in further:
                    further[after] = words + [word]
        known.update(further)
        level = further
    return known


def seats_standings(setup, seats):
    """All standings of the seats that are met."""
    return standings_by(
        setup, ((), 0, 0), lambda place: [seats_beat(setup, seats, place, comers)[0] for comers in comers_of(setup)]
    )


def seats_told(setup, seats):
    """What a standing of the seats tells by all comers: how many sat, and where it leads."""
    memo = {}

    def told(standing):
        if standing not in memo:
            memo[standing] = []
            for comers in comers_of(setup):
                after, word = seats_beat(setup, seats, standing, comers)
                memo[standing].append((sum(size for _, size in word[0]), after))
        return memo[standing]

    return told


def short_rows(setup):
    """All rows of as many beats as can be searched, the shorter ones first."""
    longest = {1: 8, 2: 6, 3: 4, 4: 4}.get(len(comers_of(setup)), 2)
    return [row for count in range(longest + 1) for row in rows_of(setup, count)]


def some_pairs(seed, count):
    """Setups with two rules."""
    return [
        (setup, rule, other) for (setup, rule), (_, other) in zip(some_houses(seed, count), some_houses(seed + 50, count))
    ]


def small_pairs(seed, count, most=9):
    """Setups and two rules by which a few pairs of standings come, but more than two, with few comers."""
    found = []
    houses = small_houses(seed, 8 * count, most)
    for place, (setup, rule) in enumerate(houses):
        for _, other in houses[place + 1:place + 9]:
            if 2 < len(pairs_met(setup, rule, other, most=most)) <= most:
                found.append((setup, rule, other))
                break
    return found[:count]
