"""An evening led deed by deed, to compare a Parlour and a desk with. Nothing of the program is used here."""

import copy
from random import Random

from tests.plain_house import WORDS, plain_count
from tests.plain_parlour import House, comers_of, some_seats, some_tubs, turning_seats, turning_tubs

EMPTY = ((), ())


class Evening:
    """A plain house that is told each deed; taking one back tells it all others anew."""

    def __init__(self, setup, rule=EMPTY):
        self.setup, self.first, self.deeds = setup, rule, []
        self.restart()

    def restart(self):
        self.house = House(self.setup, *self.first)
        self.comers, self.told, self.ends, self.seen = [], [], [], []

    def do(self, what, thing=None):
        self.deeds.append((what, thing))
        return self.apply(what, thing)

    def apply(self, what, thing):
        house = self.house
        if what == "beat":
            self.comers.append(thing)
            self.told.append(house.tell(thing))
            self.seen.append((len(house.groups), len(house.singles), house.portions()))
            return self.told[-1]
        if what == "seats":
            house.seats = thing
        elif what == "tubs":
            house.tub_rule = thing
        else:
            gone = (sum(group[1] for group in house.groups) + len(house.singles), house.portions())
            rule = (house.seats, house.tub_rule)
            self.house = House(self.setup, *rule)
            self.ends.append((len(self.told), *gone))
            return gone
        return None

    def undo(self):
        deeds, self.deeds = self.deeds[:-1], []
        self.restart()
        for deed in deeds:
            self.do(*deed)

    def rule(self):
        return (self.house.seats, self.house.tub_rule)

    def totals(self):
        found = {what: sum(plain_count(self.setup, what, bill) for bill in self.told) for what in WORDS}
        for _, away, melted in self.ends:
            found["away"] += away
            found["melted"] += melted
            found["cost"] += away * self.setup[6][3] + melted * self.setup[6][1]
        return tuple(found[what] for what in WORDS)


def some_deeds(seed, setup, count):
    """So many deeds of an evening; None stands for one that is taken back."""
    chance = Random(seed)
    seats = [EMPTY[0], *turning_seats(seed, 3, deaf=False), *some_seats(seed, 3, deaf=False)]
    tubs = [EMPTY[1], *turning_tubs(seed, 3, deaf=False), *some_tubs(seed, 3, deaf=False)]
    found, kept = [], 0
    for _ in range(count):
        what = chance.choice(["beat"] * 6 + ["seats", "tubs", "close", "undo"])
        if what == "undo":
            if kept:
                found.append(None)
                kept -= 1
            continue
        thing = {"beat": chance.choice(comers_of(setup)), "seats": chance.choice(seats), "tubs": chance.choice(tubs)}
        found.append((what, thing.get(what)))
        kept += 1
    return found


def best_ahead(setup, evening, what, beats):
    """The greatest sum of what is counted in so many next beats, and the first row with it."""
    if beats == 0:
        return 0, []
    best = None
    for comers in comers_of(setup):
        house = copy.deepcopy(evening.house)
        bill = house.tell(comers)
        after = Evening(setup)
        after.house = house
        rest, row = best_ahead(setup, after, what, beats - 1)
        found = plain_count(setup, what, bill) + rest
        if best is None or found > best[0]:
            best = found, [comers] + row
    return best


def cost_of(setup, rule, row, house):
    """What a row costs by a rule from a plain house on, with moods 0."""
    house = copy.deepcopy(house)
    house.seats, house.tub_rule, house.moods = *rule, [0, 0]
    return sum(plain_count(setup, "cost", house.tell(comers)) for comers in row)
