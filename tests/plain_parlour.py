"""A plain parlour that is told beat by beat, and setups and rules to compare the program with.

Nothing of the program is used here.
"""

import itertools
from random import Random

# The setup of the document's example, and one of the greatest ones.
SETUP = (2, (1, 2), (2, 1), (1, 0), (2,), 2, (1, 1, 2, 1))
GREAT = (4, (1, 2), (2, 2), (1, 2), (1, 3), 3, (1, 2, 3, 4))
ANY = (0, 9)
# groups first, then singles
EAGER = ((0, ANY, ANY, ANY, ANY, "group", 0), (0, ANY, ANY, ANY, ANY, "single", 0))
# singles first: a group of two can wait for ever
UNFAIR = ((0, ANY, ANY, ANY, ANY, "single", 0), (0, ANY, ANY, ANY, ANY, "group", 0))
LAZY = ()
HEARING = ((0, ANY, ANY, ANY, (1, 9), "group", 0),)


def some_setups(seed, count):
    chance = Random(seed)
    return [some_setup(chance) for _ in range(count)]


def some_setup(chance):
    seats = chance.randint(1, 4)
    return (
        seats,
        tuple(sorted(chance.sample(range(1, seats + 1), min(seats, chance.randint(1, 2))))),
        (chance.randint(1, 2), chance.randint(0, 2)),
        (chance.randint(0, 1), chance.randint(0, 2)),
        tuple(sorted(chance.sample(range(1, 5), chance.randint(1, 2)))),
        chance.randint(1, 3),
        tuple(chance.randint(0, 5) for _ in range(4)),
    )


def small_setups(seed, count):
    """Setups with few comers, so that all short rows can be searched."""
    chance = Random(seed)
    found = []
    while len(found) < count:
        setup = some_setup(chance)
        if len(comers_of(setup)) in (2, 3, 4):
            found.append(setup)
    return found


def span(chance, top):
    if chance.random() < 0.6:
        return ANY
    low = chance.randint(0, top)
    return (low, chance.randint(low, 9 if chance.random() < 0.5 else max(top, low)))


def some_half(chance, deeds, *, deaf=True, moods=2):
    rows = []
    for _ in range(chance.choice([0, 1, 2, 3, 4, 5, 5, 6, 6, 6])):
        mood, after = chance.randint(0, moods), chance.randint(0, moods)
        spans = [span(chance, 4), span(chance, 4), span(chance, 3)]
        heard = ANY if deaf else span(chance, 3)
        rows.append((mood, *spans, heard, chance.choice(deeds), after))
    return tuple(rows)


def turning_half(chance, deeds, *, deaf=True):
    """A rule that goes on to another mood at each beat or two, and does most of its deeds."""
    rows = []
    for mood in [0, 1, 2]:
        for _ in range(2):
            spans = [chance.choice([ANY, ANY, ANY, (0, 1), (1, 9), (1, 2), (0, 2), (2, 9)]) for _ in range(3)]
            heard = ANY if deaf else chance.choice([ANY, (0, 1), (1, 9), (0, 0)])
            rows.append((mood, *spans, heard, chance.choice(deeds), chance.choice([mood, (mood + 1) % 3])))
    return tuple(rows)


def turning_seats(seed, count, **how):
    chance = Random(seed)
    return [turning_half(chance, ["group", "single", "go"], **how) for _ in range(count)]


def turning_tubs(seed, count, **how):
    chance = Random(seed)
    return [turning_half(chance, ["small", "great", "rest"], **how) for _ in range(count)]


def some_seats(seed, count, **how):
    chance = Random(seed)
    return [some_half(chance, ["group", "group", "single", "go"], moods=chance.randint(0, 2), **how) for _ in range(count)]


def some_tubs(seed, count, **how):
    chance = Random(seed)
    return [some_half(chance, ["small", "great", "rest"], moods=chance.randint(0, 2), **how) for _ in range(count)]


def comers_of(setup):
    _, sizes, _, (most_groups, most_singles), _, _, _ = setup
    groups = [groups for count in range(most_groups + 1) for groups in itertools.product(sizes, repeat=count)]
    return sorted((coming, singles) for coming in groups for singles in range(most_singles + 1))


def rows_of(setup, length):
    """All rows of comers of just so many beats, as lists compare."""
    return [list(row) for row in itertools.product(comers_of(setup), repeat=length)]


def rows_up_to(setup, length):
    """All rows of at most so many beats, the shorter ones first."""
    return [row for count in range(length + 1) for row in rows_of(setup, count)]


def some_rows(seed, setup, count, length):
    chance = Random(seed)
    return [[chance.choice(comers_of(setup)) for _ in range(length)] for _ in range(count)]


def lively(setups, rules, count):
    """So many (setup, seat rule), of those given, by which much happens in a row: many beats are unlike."""
    found = []
    for place, (setup, rule) in enumerate(zip(setups, rules)):
        house = House(setup, rule)
        words = {}
        for comers in some_rows(place, setup, 1, 60)[0]:
            standing = house.seats_standing()
            words[(standing, comers)] = house.tell(comers)[0]
        quiet = {standing for standing, _ in words}
        nobody_waits = any(not line and singles == 0 for line, singles, _ in quiet)
        if len(set(words.values())) >= 3 and len(quiet) >= 5 and nobody_waits:
            found.append((setup, rule))
    return found[:count]


class House:
    """A parlour that is told its beats one by one: guests are [kind, size, beat of coming]."""

    def __init__(self, setup, seats=(), tubs=()):
        self.setup, self.seats, self.tub_rule = setup, seats, tubs
        self.beat = -1
        self.groups, self.singles = [], []
        self.tubs = []
        self.moods = [0, 0]
        self.used = [set(), set()]
        self.lives = []

    def come(self, comers):
        away = 0
        self.found = {"group": None, "single": None}
        for size in comers[0]:
            if len(self.groups) == self.setup[2][0]:
                away += size
            else:
                self.found["group"] = ["group", size, self.beat]
                self.groups.append(self.found["group"])
        for _ in range(comers[1]):
            if len(self.singles) == self.setup[2][1]:
                away += 1
            else:
                self.found["single"] = ["single", 1, self.beat]
                self.singles.append(self.found["single"])
        return away

    def portions(self):
        return sum(tub["portions"] for tub in self.tubs)

    def pick(self, half, rule, looks, can):
        for place, row in enumerate(rule):
            low_enough = [low <= look <= high for look, (low, high) in zip(looks, row[1:5])]
            if row[0] == self.moods[half] and all(low_enough) and can[row[5]]:
                self.moods[half] = row[6]
                self.used[half].add(place)
                return row[5]
        return None

    def sit(self, portions):
        left, deeds = self.setup[0], []
        while True:
            front = self.groups[0][1] if self.groups else 0
            can = {"group": bool(self.groups) and front <= left, "single": bool(self.singles) and left > 0, "go": True}
            deed = self.pick(0, self.seats, (front, left, len(self.singles), portions), can)
            if deed not in ("group", "single"):
                break
            guest = (self.groups if deed == "group" else self.singles).pop(0)
            deeds.append((deed, guest[1]))
            left -= guest[1]
        return tuple(deeds), (left if self.groups or self.singles else 0)

    def serve(self, asked, waiting):
        kinds, life = self.setup[4], self.setup[5]
        opened, served, melted = [], 0, 0
        while True:
            age = self.tubs[0]["age"] if self.tubs else 9
            can = {"small": len(self.tubs) < 2, "great": len(self.tubs) < 2, "rest": True}
            deed = self.pick(1, self.tub_rule, (asked, self.portions(), age, waiting), can)
            if deed not in ("small", "great"):
                break
            held = kinds[0] if deed == "small" else kinds[-1]
            opened.append(held)
            tub = {"age": 0, "portions": held, "beat": self.beat, "held": held, "eaten": 0, "melted": 0}
            self.tubs.append(tub)
            self.lives.append(tub)
        for tub in self.tubs:
            while tub["portions"] > 0 and served < asked:
                tub["portions"] -= 1
                tub["eaten"] += 1
                served += 1
        for tub in self.tubs:
            tub["age"] += 1
            if tub["age"] == life:
                tub["melted"] = tub["portions"]
                melted += tub["portions"]
                tub["portions"] = 0
        self.tubs = [tub for tub in self.tubs if tub["portions"] > 0]
        return tuple(opened), served, asked - served, melted

    def tell(self, comers):
        """A beat: its bill."""
        self.beat += 1
        away = self.come(comers)
        deeds, empty = self.sit(self.portions())
        waiting = len(self.groups) + len(self.singles)
        return (deeds, empty, away) + self.serve(sum(size for _, size in deeds), waiting)

    def ask(self, asked):
        """A beat of the tubs alone: what they tell of it."""
        self.beat += 1
        return self.serve(asked, 0)

    def seats_standing(self):
        return (tuple(group[1] for group in self.groups), len(self.singles), self.moods[0])

    def tubs_now(self):
        return tuple((tub["age"], tub["portions"]) for tub in self.tubs)

    def standing(self):
        return self.seats_standing()[:2] + (self.tubs_now(), tuple(self.moods))


def run(setup, seats, row, tubs=()):
    """The parlour behind a row, and the bills of its beats."""
    house = House(setup, seats, tubs)
    return house, [house.tell(comers) for comers in row]


def told(setup, seats, row):
    """What the seats tell of a row."""
    return [bill[:3] for bill in run(setup, seats, row)[1]]


def sat(bill):
    return sum(size for _, size in bill[0])


def run_tubs(setup, tubs, asking):
    """The parlour behind an asking, and what its tubs told."""
    house = House(setup, (), tubs)
    return house, [house.ask(asked) for asked in asking]


def askings(setup, length):
    return [list(asking) for asking in itertools.product(range(setup[0] + 1), repeat=length)]


def askings_up_to(setup, length):
    return [asking for count in range(length + 1) for asking in askings(setup, count)]


def standings_by(setup, start, further):
    """All standings that are met, by going on from a start with further(standing)."""
    known, fresh = {start}, [start]
    while fresh:
        fresh = [after for standing in fresh for after in further(standing)]
        fresh = [after for after in dict.fromkeys(fresh) if after not in known]
        known |= set(fresh)
    return sorted(known)


def set_house(setup, seats, tubs, standing):
    """A parlour at a standing of the house."""
    house = House(setup, seats, tubs)
    line, singles, open_tubs, moods = standing
    house.groups = [["group", size, -1] for size in line]
    house.singles = [["single", 1, -1] for _ in range(singles)]
    house.tubs = [
        {"age": age, "portions": portions, "beat": -1, "held": portions, "eaten": 0, "melted": 0}
        for age, portions in open_tubs
    ]
    house.moods = list(moods)
    return house


def house_beat(setup, rule, standing, comers):
    """The standing behind a beat from a standing of the house on, and its bill."""
    house = set_house(setup, rule[0], rule[1], standing)
    bill = house.tell(comers)
    return house.standing(), bill


def seats_beat(setup, seats, standing, comers):
    after, bill = house_beat(setup, (seats, ()), (standing[0], standing[1], (), (standing[2], 0)), comers)
    return (after[0], after[1], after[3][0]), bill[:3]


def tubs_beat(setup, tubs, standing, asked):
    house = set_house(setup, (), tubs, ((), 0, standing[0], (0, standing[1])))
    word = house.ask(asked)
    return (house.tubs_now(), house.moods[1]), word


def plain_web(places, beats_from, weigh):
    """The web of standings: the first one of places as node 0, the others as they stand."""
    return tuple(
        tuple((weigh(word), places.index(after)) for after, word in beats_from(place)) for place in places
    )


def changed_at(thing, path, part):
    """A tuple with another part at a path of places."""
    if not path:
        return part
    place = path[0]
    return thing[:place] + (changed_at(thing[place], path[1:], part),) + thing[place + 1:]


NO_THINGS = [None, True, False, 0, 1, -1, "", "x", b"", {}, {1: 2}, [], [()], [0], (0,), ("",), ((),), (None,), ((), ())]

# Places in a setup, with what may not stand there.
SETUP_FAULTS = [
    ((0,), [0, 5, -1, True, None, "2", (2,), [2]]),
    ((1,), [(), (1, 2, 3), (2, 1), (1, 1), (0,), (0, 1), (3,), (1, 3), [1], 1, None, (True,), (1, None), ("1",), "1"]),
    ((2,), [(), (1,), (1, 1, 1), [1, 1], 1, None]),
    ((2, 0), [0, 3, -1, True, None, "1"]),
    ((2, 1), [3, -1, True, False, None, "1"]),
    ((3,), [(), (1,), (1, 1, 1), [1, 1], 1, None]),
    ((3, 0), [2, -1, True, False, None]),
    ((3, 1), [3, -1, True, False, None]),
    ((4,), [(), (1, 2, 3), (2, 1), (2, 2), (0,), (0, 1), (5,), (1, 5), [2], 2, None, (True,), (1, True)]),
    ((5,), [0, 4, -1, True, None, "1"]),
    ((6,), [(), (1, 1, 1), (1, 1, 1, 1, 1), [1, 1, 1, 1], 1, None]),
    ((6, 0), [6, -1, True, False, None]),
    ((6, 3), [6, -1, True, False, None]),
]

NO_SETUPS = NO_THINGS + [list(SETUP), SETUP[:6], SETUP + (0,)] + [
    changed_at(SETUP, path, part) for path, parts in SETUP_FAULTS for part in parts
]


def no_halves(half):
    """Objects that are no rule of a half, made of one that is."""
    row = half[0]
    found = [thing for thing in NO_THINGS if thing != ()]
    found += [list(half), (list(row),), half[0], (row[:6],), (row + (0,),), (row,) * 7, half + (None,)]
    for place in [0, 6]:
        found += [(changed_at(row, (place,), part),) for part in [-1, 3, True, False, None, "0", (0,)]]
    for place in [1, 2, 3, 4]:
        parts = [
            None, 0, True, (), (0,), (0, 1, 2), [0, 9], (-1, 9), (0, 10), (2, 1), (True, 9), (0, True), (False, 9),
            ("0", 9), (0, None), "09",
        ]
        found += [(changed_at(row, (place,), part),) for part in parts]
    for part in [None, 0, True, "", "Go", "sit", b"go", ("go",), ["go"]]:
        found.append((changed_at(row, (5,), part),))
    return found


NO_SEATS = no_halves(EAGER) + [(changed_at(EAGER[0], (5,), deed),) for deed in ["small", "great", "rest"]]

# Objects that are no row of comers of SETUP (no singles come), and the place of the fault.
NO_ROWS = [(thing, -1) for thing in [None, True, 0, "", "ab", (), ((),), {}, (((), 0),)]] + [
    ([None], 0), ([True], 0), ([0], 0), ([()], 0), ([((),)], 0), ([((), 0, 0)], 0), ([[(), 0]], 0), ([([], 0)], 0),
    ([((), 1)], 0), ([((), -1)], 0), ([((), False)], 0), ([((), None)], 0), ([((3,), 0)], 0), ([((0,), 0)], 0),
    ([((1, 1), 0)], 0), ([((True,), 0)], 0), ([(("1",), 0)], 0), ([((None,), 0)], 0), ([(1, 0)], 0),
    ([((), 0), ((1,), 0), ((2,), 1), None], 2), ([((), 0)] * 200 + [((), 0)], 200), ([((), 0)] * 200 + [None], 200),
    ([((), 0)] * 199 + [None], 199), ([((), 0)] * 300, 200),
]


def first_row(coming, start, step, hit):
    """The first shortest list of what comes whose last beat is a hit, None if there is none.

    step(state, comes) tells the state behind a beat and what it tells; hit(word) whether it is one.
    """
    level, known = {start: []}, {start}
    while level:
        further = {}
        for state, row in sorted(level.items(), key=lambda item: item[1]):
            for comes in coming:
                after, word = step(state, comes)
                if hit(word):
                    return row + [comes]
                if after not in known and after not in further:
                    further[after] = row + [comes]
        known |= set(further)
        level = further
    return None


def plain_seats_apart(setup, seats, other, start=((), 0, 0), beside=((), 0, 0)):
    def step(state, comers):
        after, word = seats_beat(setup, seats, state[0], comers)
        twin, beyond = seats_beat(setup, other, state[1], comers)
        return (after, twin), (word, beyond)

    return first_row(comers_of(setup), (start, beside), step, lambda words: words[0] != words[1])
