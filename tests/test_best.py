import itertools
import unittest
from fractions import Fraction
from random import Random

from parlourday.best import (
    best_from, best_mean, best_seats, best_steps, best_tubs, best_way, best_way_holds, best_without, kept_deeds, regret,
    rule_way, views_met, worst_guests, worst_guests_hold,
)
from parlourday.errors import (
    BadCount, BadFraction, BadRule, BadSeats, BadSetup, BadTubs, BadView, BadWhat, TooMany,
)
from parlourday.longrun import long_mean

from tests.cases import SEAT_VIEWS_300, SEAT_VIEWS_301, TUB_VIEWS_300, TUB_VIEWS_301, VIEWS_300, VIEWS_304
from tests.plain_house import MEET_120, MEET_121, NO_RULES, RULE, met_house, some_houses
from tests.plain_parlour import (
    ANY, EAGER, GREAT, House, NO_SEATS, NO_SETUPS, NO_THINGS, SETUP, UNFAIR, changed_at, comers_of, set_house, some_seats,
    some_setups, some_tubs, turning_seats, turning_tubs,
)
from tests.plain_search import NO_COUNTS, NO_FRACTIONS, pair
from tests.plain_tubs import NO_TUBS, READY, SAVING
from tests.plain_ways import (
    FIRST, TINY, all_views, arrivals, beat_ends, best_rest, can_do, come, count_ways, do, plain_best_mean,
    plain_best_way_holds, plain_guests_hold, price, strict_steps,
)

WORDS = ["empty", "away", "unserved", "melted"]
# a few views: a few thousand ways
FEW = [
    setup for setup in [*TINY, *[changed_at(setup, (5,), 1) for setup in some_setups(451, 400)]]
    if len(all_views(setup, 24)[0]) <= 24 and count_ways(setup) <= 2000
][:24]
MORE = [setup for setup in some_setups(452, 120) if len(all_views(setup, 120)[0]) <= 120][:50]
SOME = TINY + MORE[:25]
# Setups in which the house may fall behind for ever.
BEHIND = [
    (4, (3,), (2, 0), (1, 1), (3,), 2, (5, 3, 0, 5)), (3, (2,), (2, 2), (1, 0), (3, 4), 1, (5, 2, 3, 3)),
    (3, (2,), (2, 0), (1, 2), (3,), 1, (3, 2, 2, 5)), (4, (3,), (2, 0), (1, 2), (1, 2), 1, (4, 5, 2, 3)),
    (2, (1, 2), (2, 0), (1, 2), (2,), 1, (3, 3, 2, 5)), (4, (1, 4), (2, 0), (1, 1), (3,), 1, (1, 2, 2, 1)),
]
NO_PLACES = [None, True, 0, (), [], "", {}, ((),), ((), 0), (None, 0, ()), ([], 0, ()), ((), False, ()), ((), 0, [])]


class Views(unittest.TestCase):
    def test_by_hand(self):
        setup = (1, (1,), (1, 0), (1, 0), (1,), 1, (1, 2, 3, 4))
        self.assertEqual(views_met(setup), [
            ("seat", (), 0, (), 0), ("seat", (), 0, (), 1), ("seat", (1,), 0, (), 1),
            ("tub", (), 0, (), 0), ("tub", (), 0, (), 1), ("tub", (), 0, ((0, 1),), 0), ("tub", (), 0, ((0, 1),), 1),
            ("tub", (), 0, ((0, 1), (0, 1)), 0), ("tub", (), 0, ((0, 1), (0, 1)), 1),
            ("tub", (1,), 0, (), 0), ("tub", (1,), 0, ((0, 1),), 0), ("tub", (1,), 0, ((0, 1), (0, 1)), 0),
        ])

    def test_all_deeds_and_comers(self):
        for setup in TINY + some_setups(453, 80):
            views, _ = all_views(setup, 300)
            if len(views) > 300:
                with self.assertRaises(TooMany):
                    views_met(setup)
            else:
                self.assertEqual(views_met(setup=setup), views)

    def test_too_many(self):
        self.assertEqual(len(views_met(VIEWS_300)), 300)
        self.assertEqual(len(all_views(VIEWS_304)[0]), 304)
        asked = [
            (views_met, []), (best_mean, []), (best_way, []), (worst_guests, []), (best_way_holds, [(1, 2), None]),
            (worst_guests_hold, [(1, 2), None]), (regret, [((), ())]), (rule_way, [((), ())]),
            (best_from, [("seat", (), 0, (), 3)]), (kept_deeds, [("seat", (), 0, (), 3)]), (best_without, ["away"]),
            (best_steps, [0]), (best_way_holds, [(1, 2), []]), (worst_guests_hold, [(1, 2), []]),
        ]
        for function, further in asked:
            with self.subTest(function=function.__name__), self.assertRaises(TooMany):
                function(VIEWS_304, *further)
            if function in (best_from, kept_deeds):
                further = [("seat", (), 0, (), 2)]
            function(VIEWS_300, *further)


class Mean(unittest.TestCase):
    def test_all_ways_of_small_setups(self):
        means = set()
        self.assertGreater(len(FEW), 15)
        for setup in FEW:
            mean = plain_best_mean(setup)
            means.add(mean)
            self.assertEqual(best_mean(setup), pair(mean))
        self.assertGreater(len(means), 4)

    def test_papers_of_both_show_it(self):
        # the house holds the mean, and the guests hold it as well: so it is just this one
        means = set()
        for setup in SOME + BEHIND + [VIEWS_300]:
            mean = best_mean(setup)
            means.add(mean)
            way, guests = best_way(setup), worst_guests(setup)
            self.assertEqual((way, guests), (sorted(way), sorted(guests)))
            self.assertIs(plain_best_way_holds(setup, mean, way), True)
            self.assertIs(plain_guests_hold(setup, mean, guests), True)
            self.assertIs(best_way_holds(setup, mean, way), True)
            self.assertIs(worst_guests_hold(setup, mean, guests), True)
        self.assertGreater(len(means), 8)
        self.assertTrue(any(below > 1 for _, below in means))

    def test_no_rule_is_better(self):
        for place, (setup, rule) in enumerate(some_houses(454, 150)):
            if len(all_views(setup, 300)[0]) <= 300 and len(met_house(setup, rule, 120)) <= 120:
                self.assertLessEqual(Fraction(*best_mean(setup)), Fraction(*long_mean(setup, rule, "cost")))

    def test_errors(self):
        for asked, further in [(views_met, []), (best_mean, []), (best_way, []), (worst_guests, []),
                               (best_way_holds, [None, None]), (worst_guests_hold, [None, None])]:
            for thing in NO_SETUPS:
                with self.subTest(thing=str(thing)), self.assertRaises(BadSetup):
                    asked(thing, *further)
        for asked in [best_way_holds, worst_guests_hold]:
            for thing in NO_FRACTIONS:
                for setup in [SETUP, GREAT]:
                    with self.subTest(thing=str(thing)), self.assertRaises(BadFraction):
                        asked(setup, thing, None)


def changed_ways(way, others):
    """Lists that differ from a way in one part; others lists what may stand in the middle of an entry."""
    yield way[::-1]
    yield way + way[:1]
    yield []
    for place, (first, middle, number) in enumerate(way):
        yield way[:place] + way[place + 1:]
        yield way[:place] + way[place + 1:] + [(first, middle, number)] * 2
        for entry in [(first, middle, number - 1), (first, middle, number + 1)]:
            yield way[:place] + [entry] + way[place + 1:]
        for other in others:
            if other != middle:
                yield way[:place] + [(first, other, number)] + way[place + 1:]


class Papers(unittest.TestCase):
    def check_changed(self, holds, plain, setup, ways, mean):
        held = [0, 0]
        fractions = [mean, (2 * mean[0], 2 * mean[1]), (3 * mean[0] + 1, 3 * mean[1]), (2 * mean[0] - 1, 2 * mean[1])]
        for changed in ways:
            for fraction in fractions[:2 if len(ways) > 400 else 4]:
                expected = plain(setup, fraction, changed)
                held[expected] += 1
                self.assertIs(holds(setup, fraction, changed), expected)
        return held

    def test_changed_ways(self):
        total = [0, 0]
        for setup in FEW[::3] + TINY[3:5]:
            mean = best_mean(setup)
            ways = list(changed_ways(best_way(setup), ["group", "single", "go", "small", "great", "rest"]))
            held = self.check_changed(best_way_holds, plain_best_way_holds, setup, ways, mean)
            total = [total[place] + held[place] for place in (0, 1)]
        self.assertGreater(min(total), 50)

    def test_changed_guests(self):
        total = [0, 0]
        for setup in FEW[::3] + TINY[3:5]:
            mean = best_mean(setup)
            ways = list(changed_ways(worst_guests(setup), comers_of(setup)))
            held = self.check_changed(worst_guests_hold, plain_guests_hold, setup, ways, mean)
            total = [total[place] + held[place] for place in (0, 1)]
        self.assertGreater(min(total), 50)

    def test_further_entries(self):
        # a way may hold at further views than those that come by it
        setup = TINY[3]
        views, starts = all_views(setup)
        all_idle = [(view, can_do(view)[-1], 0) for view in views]
        free = changed_at(setup, (6,), (0, 0, 0, 0))
        self.assertIs(best_way_holds(free, (0, 1), all_idle), True)
        self.assertIs(best_way_holds(free, (-1, 9), all_idle), False)
        self.assertIs(worst_guests_hold(free, (0, 1), [(start, ((), 0), 0) for start in starts]), True)
        self.assertIs(worst_guests_hold(free, (1, 9), [(start, ((), 0), 0) for start in starts]), False)

    def test_the_first_views_of_all_comers(self):
        # entries that hold, but for that not all comers of the first beat lead to a view among them
        free = changed_at(SETUP, (6,), (0, 0, 0, 0))
        for _, first in arrivals(free, FIRST)[1:]:
            way = idle_from(free, [first])
            self.assertIs(plain_best_way_holds(free, (0, 1), way), False)
            self.assertIs(best_way_holds(free, (0, 1), way), False)
        way = idle_from(free, [view for _, view in arrivals(free, FIRST)])
        self.assertIs(best_way_holds(free, (0, 1), way), True)

    def test_one_entry_that_is_none(self):
        # with all prices 0 each right number from 0 on holds: so it is the entry itself that is judged
        free = changed_at(SETUP, (6,), (0, 0, 0, 0))
        way = idle_from(free, [view for _, view in arrivals(free, FIRST)])
        guests = [(start, ((), 0), 0) for start in all_views(free)[1]]
        never = ("tub", (), 0, ((0, 1),), 0)
        self.assertNotIn(never, views_met(free))
        rest = way[0][0][1:]
        every = idle_from(free, views_met(free))
        self.assertIs(best_way_holds(free, (0, 1), every), True)
        for entry in [(never, "rest", 0), (([], *rest), "go", 0), (((), *rest), "go", 0), ((), "go", 0)]:
            self.assertIs(best_way_holds(free, (0, 1), every + [entry]), False)
        for place, (view, deed, _) in enumerate(way):
            for entry in [(view, deed, True), (view, deed, False), (view, deed, "0"), (view, deed, None), (view, None, 0),
                          (view, ["go"], 0), (list(view), deed, 0), (view, "open", 0), [view, deed, 0], (view, deed)]:
                with self.subTest(entry=str(entry)):
                    self.assertIs(best_way_holds(free, (0, 1), way[:place] + [entry] + way[place + 1:]), False)
        self.assertIs(worst_guests_hold(free, (0, 1), guests + [(((), 0, ((0, 2),)), ((), 0), 0)]), False)
        for place, (start, comers, _) in enumerate(guests):
            for entry in [(start, comers, True), (start, comers, False), (start, comers, "0"), (start, comers, None),
                          (start, ((), 1), 0), (start, ((3,), 0), 0), (start, ([], 0), 0), (start, None, 0),
                          (start, ((), False), 0), (list(start), comers, 0), [start, comers, 0], (start, comers)]:
                with self.subTest(entry=str(entry)):
                    self.assertIs(worst_guests_hold(free, (0, 1), guests[:place] + [entry] + guests[place + 1:]), False)

    def test_other_objects(self):
        setup = SETUP
        mean = best_mean(setup)
        way, guests = best_way(setup), worst_guests(setup)
        view, deed, number = way[0]
        entries = [
            None, True, 0, (), way[0][:2], way[0] + (0,), list(way[0]), (view, deed, None), (view, deed, True),
            (view, deed, "0"), (view, None, number), (view, [deed], number), (view, b"go", number), (None, deed, number),
            (list(view), deed, number), (view[:4], deed, number), (view + (0,), deed, number), ({}, deed, number),
            (("Seat", *view[1:]), deed, number), ((0, *view[1:]), deed, number), (("seat", [], 0, (), 0), deed, number),
            (("seat", (), False, (), 0), deed, number), (("seat", (), 0, (), False), deed, number),
            (("seat", (), 0, (), None), deed, number), (("seat", (), 0, (), 9), deed, number),
            (("seat", (3,), 0, (), 2), deed, number), (("tub", (), 0, ((5, 1),), 2), "rest", number),
            (("tub", (), 0, (([],),), 2), "rest", number),
        ]
        for entry in entries:
            with self.subTest(entry=str(entry)):
                self.assertIs(best_way_holds(setup, mean, way + [entry]), False)
                self.assertIs(best_way_holds(setup, mean, [entry] + way), False)
        start, comers, number = guests[0]
        entries = [
            None, True, 0, (), guests[0][:2], guests[0] + (0,), list(guests[0]), (start, comers, None),
            (start, comers, True), (start, comers, "0"), (start, None, number), (start, list(comers), number),
            (start, ((3,), 0), number), (start, ((), 1), number), (start, ((), False), number), (start, ([], 0), number),
            *[(place, comers, number) for place in NO_PLACES], (((1, 1, 1), 0, ()), comers, number),
            (((), 0, ((0, 2),)), comers, number), (((), 1, (), 0), comers, number), (view, comers, number),
        ]
        for entry in entries:
            with self.subTest(entry=str(entry)):
                self.assertIs(worst_guests_hold(setup, mean, guests + [entry]), False)
                self.assertIs(worst_guests_hold(setup, mean, [entry] + guests), False)
        for thing in [*NO_THINGS, tuple(way), tuple(guests), dict(enumerate(way))]:
            with self.subTest(thing=str(thing)):
                self.assertIs(best_way_holds(setup, mean, thing), False)
                self.assertIs(worst_guests_hold(setup, mean, thing), False)
        self.assertIs(best_way_holds(setup=setup, fraction=mean, thing=way), True)
        self.assertIs(worst_guests_hold(setup=setup, fraction=mean, thing=guests), True)


def idle_from(setup, views):
    """The entries of a way that only goes and rests, of all views that come by it from some on, each number 0."""
    known, fresh = {}, list(views)
    while fresh:
        view = fresh.pop()
        if view not in known:
            known[view] = can_do(view)[-1]
            after, _ = do(setup, view, known[view])
            fresh += [after] if len(after) == 5 else [further for _, further in arrivals(setup, after)]
    return [(view, deed, 0) for view, deed in known.items()]


class Halves(unittest.TestCase):
    def test_one_price_alone(self):
        # three come to one seat: two of them are away at each beat
        setup = (1, (1,), (1, 0), (1, 2), (1,), 1, (0, 0, 0, 5))
        self.assertEqual(best_mean(setup), (10, 1))
        self.assertEqual(best_mean(changed_at(setup, (2,), (1, 1))), (10, 1))
        self.assertEqual(best_mean((4, (3, 4), (1, 0), (1, 2), (1,), 1, (0, 0, 0, 5))), (10, 1))
        # nobody sits: the groups and the singles are away
        self.assertEqual(best_tubs((4, (4,), (1, 2), (1, 2), (1,), 1, (0, 0, 0, 5)), ()), (30, 1))
        # two great tubs are opened for nobody, and melt at once
        tubs = ((0, ANY, ANY, ANY, ANY, "great", 0),)
        self.assertEqual(best_seats((2, (2,), (1, 0), (1, 0), (1, 4), 1, (0, 5, 0, 0)), tubs), (40, 1))
        # nobody sits, and somebody waits
        self.assertEqual(best_tubs((4, (4,), (1, 0), (1, 0), (1,), 1, (5, 0, 0, 0)), ()), (20, 1))
        # all sit, and no tub is opened
        every = ((0, ANY, ANY, ANY, ANY, "group", 0),)
        self.assertEqual(long_mean((4, (4,), (1, 0), (1, 0), (1,), 1, (0, 0, 5, 0)), (every, ()), "cost"), (20, 1))

    def test_by_hand(self):
        self.assertEqual(best_mean(SETUP), (1, 2))
        self.assertEqual(best_tubs(setup=SETUP, seats=RULE[0]), (1, 2))
        # who never sits asks for nothing: but the groups are away, and the seats stay empty
        self.assertEqual(best_tubs(SETUP, ()), (4, 1))
        self.assertEqual(best_seats(setup=SETUP, tubs=()), (4, 1))

    def test_both_hold_it(self):
        # numbers settle for the house, and for the guests as well: so the mean is just this one
        means = set()
        for place, setup in enumerate(TINY[3:] + MORE[:30] + BEHIND):
            seats = (turning_seats(461, 30, deaf=False) + [EAGER, UNFAIR])[place * 7 % 32]
            tubs = (turning_tubs(462, 30, deaf=False) + [SAVING, READY])[place * 5 % 32]
            for rules, asked, rule in [((seats, None), best_tubs, seats), ((None, tubs), best_seats, tubs)]:
                if count_half(setup, *rules) > 100:
                    continue
                mean = asked(setup, rule)
                means.add(mean)
                self.assertEqual(half_holds(setup, *rules, mean), (True, True))
        self.assertGreater(len(means), 10)
        self.assertTrue(any(below > 1 for _, below in means))

    def test_numbers_do_not_settle_beyond_it(self):
        for setup in FEW[:6]:
            above, below = best_tubs(setup, EAGER)
            self.assertEqual(half_holds(setup, EAGER, None, (2 * above + 1, 2 * below)), (True, False))
            self.assertEqual(half_holds(setup, EAGER, None, (2 * above - 1, 2 * below)), (False, True))

    def test_between_the_best_and_the_rules(self):
        between = 0
        for setup, (seats, tubs) in some_houses(463, 120):
            if len(all_views(setup, 300)[0]) > 300 or len(met_house(setup, (seats, tubs), 120)) > 120:
                continue
            try:
                means = [best_mean(setup), best_tubs(setup, seats), long_mean(setup, (seats, tubs), "cost")]
                other = best_seats(setup, tubs)
            except TooMany:
                continue
            best, first, last = [Fraction(*mean) for mean in means]
            self.assertTrue(best <= first <= last and best <= Fraction(*other) <= last)
            between += best < first < last or best < Fraction(*other) < last
        self.assertGreater(between, 3)

    def test_all_ways_of_small_setups(self):
        # with a rule that does the best deeds one free half does not help further
        for setup in FEW:
            self.assertLessEqual(Fraction(*best_mean(setup)), Fraction(*best_tubs(setup, EAGER)))
            for rule in [((), ()), (EAGER, SAVING), (EAGER, READY)]:
                expected = min_half(setup, rule[0], None), min_half(setup, None, rule[1])
                self.assertEqual((best_tubs(setup, rule[0]), best_seats(setup, rule[1])), expected)

    def test_too_many(self):
        best_tubs(*TUB_VIEWS_300)
        best_seats(*SEAT_VIEWS_300)
        with self.assertRaises(TooMany):
            best_tubs(*TUB_VIEWS_301)
        with self.assertRaises(TooMany):
            best_seats(*SEAT_VIEWS_301)
        for (setup, seats), count in [(TUB_VIEWS_300, 300), (TUB_VIEWS_301, 301)]:
            self.assertEqual(count_half(setup, seats, None), count)
        for (setup, tubs), count in [(SEAT_VIEWS_300, 300), (SEAT_VIEWS_301, 301)]:
            self.assertEqual(count_half(setup, None, tubs), count)

    def test_errors(self):
        for asked in [best_tubs, best_seats]:
            for thing in NO_SETUPS:
                with self.subTest(thing=str(thing)), self.assertRaises(BadSetup):
                    asked(thing, None)
        for setup in [SETUP, GREAT]:
            for thing in NO_SEATS:
                with self.subTest(thing=str(thing)), self.assertRaises(BadSeats):
                    best_tubs(setup, thing)
            for thing in NO_TUBS:
                with self.subTest(thing=str(thing)), self.assertRaises(BadTubs):
                    best_seats(setup, thing)


def half_places(setup, seats, tubs):
    """All (view, mood) of the free half that can come, with what leads on: the next (cost, place) of each deed."""
    edges, fresh = {}, start_places(setup, seats, FIRST, 0)
    firsts = [place for _, place in fresh]
    fresh = firsts[:]
    while fresh:
        view, mood = fresh.pop()
        if (view, mood) in edges:
            continue
        edges[(view, mood)] = []
        for deed in can_do(view):
            after, counts = do(setup, view, deed)
            cost = price(setup, counts)
            next_mood = mood
            if deed == "go" and tubs is not None:
                house = set_house(setup, (), tubs, (after[1], after[2], after[3], (0, mood)))
                word = house.serve(after[4], len(after[1]) + after[2])
                cost += word[2] * setup[6][2] + word[3] * setup[6][1]
                after, next_mood = (after[1], after[2], house.tubs_now()), house.moods[1]
            if len(after) == 5:
                behind = [(cost, (after, next_mood))]
            else:
                behind = [(cost + more, place) for more, place in start_places(setup, seats, after, next_mood)]
            edges[(view, mood)].append((len(after) == 3, behind))
            fresh += [place for _, place in behind]
    return firsts, edges


def start_places(setup, seats, start, mood):
    """What a start leads to by all comers: (cost, place)."""
    found = []
    for away, view in arrivals(setup, start):
        cost = away * setup[6][3]
        if seats is None:
            found.append((cost, (view, mood)))
        else:
            house = set_house(setup, seats, (), (view[1], view[2], view[3], (mood, 0)))
            deeds, empty = house.sit(house.portions())
            line, singles, after = house.seats_standing()
            asked = sum(size for _, size in deeds)
            found.append((cost + empty * setup[6][0], (("tub", line, singles, view[3], asked), after)))
    return found


def count_half(setup, seats, tubs):
    return len(half_places(setup, seats, tubs)[1])


def min_half(setup, seats, tubs):
    """The least greatest mean over all ways that look at (view, mood): for a few places."""
    firsts, edges = half_places(setup, seats, tubs)
    places = sorted(edges)
    best = None
    for deeds in itertools.product(*[range(len(edges[place])) for place in places]):
        chosen = {place: edges[place][deed] for place, deed in zip(places, deeds)}
        mean = greatest_ring(firsts, chosen)
        best = mean if best is None else min(best, mean)
    return pair(best)


def half_holds(setup, seats, tubs, fraction):
    """Whether the house, and whether the guests can hold a fraction with one free half.

    They can if what they need, for more and more beats, does not grow any more: the house behind all first
    comers, the guests behind some.
    """
    above, below = fraction
    firsts, edges = half_places(setup, seats, tubs)
    found = []
    for sign, house, guests, all_or_any in [(1, min, max, all), (-1, max, min, any)]:
        lines = [dict.fromkeys(edges, 0)]
        for _ in range(4 * len(edges) + 20):
            lines.append({
                place: max(0, house(
                    guests(sign * (below * cost - above * rests) + lines[-1][after] for cost, after in behind)
                    for rests, behind in deeds
                )) for place, deeds in edges.items()
            })
        found.append(all_or_any(lines[2 * len(edges)][place] == lines[-1][place] for place in firsts))
    return tuple(found)


def greatest_ring(firsts, chosen):
    met, fresh = set(), list(firsts)
    while fresh:
        place = fresh.pop()
        if place not in met:
            met.add(place)
            fresh += [after for _, after in chosen[place][1]]
    means = []
    for first in met:
        paths = [(first, 0, 0, [first])]
        while paths:
            place, total, beats, path = paths.pop()
            rests, behind = chosen[place]
            for cost, after in behind:
                if after == first:
                    means.append(Fraction(total + cost, beats + rests))
                elif after > first and after not in path:
                    paths.append((after, total + cost, beats + rests, path + [after]))
    return max(means)


class Rules(unittest.TestCase):
    def test_regret(self):
        self.assertEqual(regret(SETUP, RULE), (1, 2))
        self.assertEqual(regret(setup=SETUP, rule=((), ())), (7, 2))
        some = set()
        for setup, rule in some_houses(464, 150):
            if len(all_views(setup, 300)[0]) <= 300 and len(met_house(setup, rule, 120)) <= 120:
                less = Fraction(*long_mean(setup, rule, "cost")) - Fraction(*best_mean(setup))
                self.assertEqual(regret(setup, rule), pair(less))
                some.add(less)
        self.assertGreater(len(some), 8)

    def test_rules_that_are_best(self):
        # the rule's deeds, each with its number, are a house way if there is one at all
        held = [0, 0]
        chance = Random(465)
        for place in range(240):
            setup = chance.choice(SOME)
            rule = tuple(
                tuple((0, *row[1:6], 0) for row in half)
                for half in (chance.choice(RULES_SEATS), chance.choice(RULES_TUBS))
            )
            way = plain_rule_way(setup, rule)
            mean = best_mean(setup)
            numbers = plain_numbers(setup, mean, way)
            held[numbers is not None] += 1
            self.assertIs(rule_way(setup, rule), numbers is not None)
            if numbers is not None:
                entries = [(view, deed, numbers[view]) for view, deed in way.items()]
                self.assertIs(best_way_holds(setup, mean, entries), True)
        self.assertGreater(min(held), 30)

    def test_order_of_errors(self):
        moody = (((1, ANY, ANY, ANY, ANY, "go", 0),), ())
        others = [moody, (((0, ANY, ANY, ANY, ANY, "go", 2),), ()), ((), ((0, ANY, ANY, ANY, ANY, "rest", 1),)),
                  ((), ((2, ANY, ANY, ANY, ANY, "rest", 0),))]
        for rule in others:
            with self.assertRaises(BadRule):
                rule_way(SETUP, rule)
            with self.assertRaises(TooMany):
                rule_way(VIEWS_304, rule)
            regret(SETUP, rule)
        for thing in NO_RULES:
            for asked in [regret, rule_way]:
                for setup in [SETUP, VIEWS_304]:
                    with self.subTest(thing=str(thing)), self.assertRaises(BadRule):
                        asked(setup, thing)
        for thing in NO_SETUPS:
            for asked in [regret, rule_way]:
                with self.assertRaises(BadSetup):
                    asked(thing, None)
        with self.assertRaises(TooMany):
            regret(*MEET_121)
        with self.assertRaises(TooMany):
            regret(*MEET_120)
        self.assertIs(rule_way(setup=SETUP, rule=RULE), False)


RULES_SEATS = [EAGER, UNFAIR, (), *some_seats(466, 20, deaf=False)]
RULES_TUBS = [SAVING, READY, (), READY[:2], *some_tubs(467, 20, deaf=False)]


def plain_rule_way(setup, rule):
    """The deed of a rule at each view that comes by it."""
    way, fresh = {}, [view for _, view in arrivals(setup, FIRST)]
    while fresh:
        view = fresh.pop()
        if view in way:
            continue
        kind, line, singles, tubs, number = view
        house = House(setup)
        open_now = sum(portions for _, portions in tubs)
        looks = (line[0] if line else 0, number, singles, open_now)
        if kind == "tub":
            looks = (number, open_now, tubs[0][0] if tubs else 9, len(line) + singles)
        can = {deed: deed in can_do(view) for deed in ["group", "single", "go", "small", "great", "rest"]}
        half = 0 if kind == "seat" else 1
        way[view] = house.pick(half, rule[half], looks, can) or ("go" if half == 0 else "rest")
        after, _ = do(setup, view, way[view])
        fresh += [after] if len(after) == 5 else [further for _, further in arrivals(setup, after)]
    return way


def plain_numbers(setup, fraction, way):
    """The least numbers from 0 on for one deed at each view, None if there are none."""
    above, below = fraction
    numbers = dict.fromkeys(way, 0)
    for _ in range(len(way) + 1):
        further = {}
        for view, deed in way.items():
            after, counts = do(setup, view, deed)
            behind = [(0, after)] if deed != "rest" else arrivals(setup, after)
            further[view] = max([0] + [
                numbers[later] + below * (price(setup, counts) + away * setup[6][3]) - (above if deed == "rest" else 0)
                for away, later in behind
            ])
        if further == numbers:
            return numbers
        numbers = further
    return None


class From(unittest.TestCase):
    def test_all_views(self):
        # which deeds are kept: those behind which the mean is no greater
        unlike = kept = 0
        for setup in BEHIND + [setup for setup in SOME if len(all_views(setup, 45)[0]) <= 45][:8]:
            means = {view: best_from(setup, view) for view in views_met(setup)}
            unlike += len(set(means.values())) > 1
            for view, mean in means.items():
                worst = {}
                for deed in can_do(view):
                    after, _ = do(setup, view, deed)
                    behind = [after] if deed != "rest" else [further for _, further in arrivals(setup, after)]
                    worst[deed] = max(Fraction(*means[further]) for further in behind)
                self.assertEqual(Fraction(*mean), min(worst.values()))
                expected = [deed for deed in can_do(view) if worst[deed] == Fraction(*mean)]
                self.assertEqual(kept_deeds(setup, view), expected)
                kept += len(expected) < len(can_do(view))
            firsts = [Fraction(*means[view]) for _, view in arrivals(setup, FIRST)]
            self.assertEqual(Fraction(*best_mean(setup)), max(firsts))
        self.assertGreater(min(unlike, kept), 5)

    def test_by_hand(self):
        view = ("seat", (), 0, (), 2)
        self.assertEqual(best_from(setup=SETUP, view=view), (1, 2))
        self.assertEqual(kept_deeds(setup=SETUP, view=view), ["go"])
        self.assertEqual(kept_deeds(SETUP, ("seat", (2,), 0, (), 2)), ["group", "go"])
        self.assertEqual(kept_deeds(SETUP, ("tub", (), 0, (), 0)), ["small", "great", "rest"])

    def test_errors(self):
        right = ("seat", (), 0, (), 2)
        things = [
            *NO_THINGS, list(right), right[:4], right + (0,), ("seat", (), 0, (), 3), ("seat", (), 0, (), -1),
            ("Seat", (), 0, (), 2), ("tub", (), 0, (), 3), ("seat", (3,), 0, (), 2), ("seat", (), 1, (), 2),
            ("seat", [], 0, (), 2), ("seat", (), False, (), 2), ("seat", (), 0, (), True), ("seat", (), 0, (), None),
            ("seat", (), 0, [], 2), ("seat", (), 0, ((0, 2),), 2), ("tub", (), 0, ((2, 2),), 0), (0, (), 0, (), 2),
            (b"seat", (), 0, (), 2), ("seat", {}, 0, (), 2), ("seat", ({},), 0, (), 2), ("seat", (), 0, (([], 1),), 2),
            ("seat", (1, 1, 1), 0, (), 2), ("tub", (), 0, ((1, 1), (0, 2), (0, 2)), 0),
            ("tub", (), 0, ((0, 1),), 0), ([], (), 0, (), 2), ({}, (), 0, (), 2), (), ((), (), 0, (), 2),
        ]
        for asked in [best_from, kept_deeds]:
            for thing in NO_SETUPS:
                with self.assertRaises(BadSetup):
                    asked(thing, None)
            for thing in things:
                with self.subTest(thing=str(thing)), self.assertRaises(BadView):
                    asked(SETUP, thing)
            # ahead of too many
            for setup in [VIEWS_304, GREAT]:
                for thing in [None, ("seat", (), 0, (), 9), ("seat", (9,), 0, (), 1), ("tub", (), 0, ((3, 3),), 0)]:
                    with self.assertRaises(BadView):
                        asked(setup, thing)
                with self.assertRaises(TooMany):
                    asked(setup, ("seat", (), 0, (), setup[0]))


class Without(unittest.TestCase):
    def test_by_hand(self):
        self.assertEqual(best_without(SETUP, "unserved"), (1, 2))
        self.assertEqual(best_without(setup=SETUP, what="melted"), (2, 1))
        # one single may be away at the first beat, which is left aside, and at each later one
        setup = (1, (1,), (1, 0), (0, 1), (1,), 1, (1, 1, 1, 1))
        self.assertIsNone(best_without(setup, "away"))
        self.assertEqual(best_without(setup, "melted"), (1, 1))
        self.assertEqual(best_without(changed_at(setup, (6,), (1, 1, 1, 0)), "empty"), (0, 1))

    def test_over_many_beats(self):
        found = []
        for setup in SOME[:22] + BEHIND:
            for what in WORDS:
                mean = best_without(setup, what)
                steps = [strict_steps(setup, what, beats) for beats in [20, 44]]
                found.append(mean is None)
                self.assertEqual(mean is None, steps[1] is None)
                if mean is not None:
                    self.assertLessEqual(Fraction(*best_mean(setup)), Fraction(*mean))
                    slope = Fraction(steps[1] - steps[0], 24)
                    self.assertLess(abs(slope - Fraction(*mean)), Fraction(1, 2))
        self.assertGreater(min(found.count(True), found.count(False)), 10)

    def test_errors(self):
        for thing in NO_SETUPS:
            with self.assertRaises(BadSetup):
                best_without(thing, None)
        for thing in [None, True, 0, "", "cost", "served", "seated", "Away", b"away", ("away",), ["away"], {}]:
            for setup in [SETUP, GREAT]:
                with self.subTest(thing=str(thing)), self.assertRaises(BadWhat):
                    best_without(setup, thing)


class Steps(unittest.TestCase):
    def test_all_deeds_and_comers(self):
        for setup in SOME:
            for beats in [0, 1, 2, 3, 7, 20]:
                views = [view for _, view in arrivals(setup, FIRST)]
                expected = max(best_rest(setup, view, beats, lambda start: 0) for view in views) if beats else 0
                self.assertEqual(best_steps(setup, beats), expected)

    def test_sixty_beats(self):
        for setup in SOME[:20]:
            mean = Fraction(*best_mean(setup))
            self.assertLess(abs(Fraction(best_steps(setup, 60) - best_steps(setup, 36), 24) - mean), Fraction(1, 2))

    def test_plain_beats(self):
        # the beats of a way are those of a house that is told the same deeds
        for setup in TINY:
            for comers in comers_of(setup):
                _, view = come(setup, FIRST, comers)
                for deeds, start, counts in beat_ends(setup, view):
                    self.assertEqual(deeds.count("go") + deeds.count("rest"), 2)
                    self.assertGreaterEqual(price(setup, counts), 0)
                    self.assertLessEqual(len(start[2]), 2)

    def test_errors(self):
        for thing in NO_SETUPS:
            with self.assertRaises(BadSetup):
                best_steps(thing, None)
        for thing in [*NO_COUNTS, 61]:
            for setup in [SETUP, GREAT]:
                with self.subTest(thing=str(thing)), self.assertRaises(BadCount):
                    best_steps(setup, thing)
        best_steps(setup=SETUP, count=60)


if __name__ == "__main__":
    unittest.main()
