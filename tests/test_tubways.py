import itertools
import unittest

from parlourday.errors import BadAsking, BadFraction, BadOpenings, BadSetup, BadTubs, NotDeaf, TooMany
from parlourday.tubs import never_short, tubs_after, tubs_met, tubs_of
from parlourday.tubways import (
    alone_way, alone_way_holds, asked_best, asking_back, askings_counted, best_alone, best_openings, trimmed,
    tub_lives, tubs_apart, tubs_classes,
)

from tests.plain_parlour import (
    ANY, GREAT, NO_SETUPS, NO_THINGS, SETUP, askings, changed_at, run_tubs, some_setups, some_tubs, turning_tubs,
)
from tests.plain_search import NO_FRACTIONS, pair
from tests.plain_tubs import (
    CLOSED, HEARING_TUBS, NO_ASKINGS, NO_TUBS, READY, SAVING, all_opened, deeds_at, done, least_costs, met_tubs,
    places_alone, plain_best_alone, plain_tubs_apart, plain_way_holds, tub_pairs, used_tubs,
)
from tests.test_tubs import some_askings

CASES = list(zip(some_setups(141, 120), some_tubs(142, 60) + turning_tubs(143, 60)))
CASES += [(GREAT, rule) for rule in [(), SAVING, READY, *turning_tubs(144, 8)]] + [(SETUP, SAVING), (SETUP, READY)]
MANY = (4, (1, 2), (2, 2), (1, 2), (3, 4), 3, (5, 4, 3, 2))
NO_OPENINGS = [
    None, True, 0, "", (), ((),), {}, [None], [0], [[]], [(0,)], [(5,)], [(1, 1, 1)], [(True,)], [("1",)], [(None,)],
    [(1, 0)], [(), (1,), [2]], [()] * 31, ["1"],
]


class Lives(unittest.TestCase):
    def test_by_hand(self):
        self.assertEqual(tub_lives(SETUP, SAVING, []), [])
        self.assertEqual(tub_lives(SETUP, SAVING, [1, 0, 2]), [(0, 2, 1, 1), (2, 2, 2, 0)])
        self.assertEqual(tub_lives(setup=SETUP, tubs=SAVING, asking=[1]), [(0, 2, 1, 0)])
        self.assertEqual(tub_lives(GREAT, READY, [4, 1]), [(0, 3, 3, 0), (0, 3, 2, 0)])
        self.assertEqual(tub_lives(GREAT, READY, [4, 0, 0]), [(0, 3, 3, 0), (0, 3, 1, 2)])

    def test_told_one_by_one(self):
        for place, (setup, rule) in enumerate(CASES):
            for asking in [*some_askings(place, setup, 25), *some_askings(place, setup, 3)]:
                lives = run_tubs(setup, rule, asking)[0].lives
                expected = [(tub["beat"], tub["held"], tub["eaten"], tub["melted"]) for tub in lives]
                found = tub_lives(setup, rule, asking)
                self.assertEqual(found, expected)
                told = tubs_of(setup, rule, asking)
                self.assertEqual(sum(life[2] for life in found), sum(word[1] for word in told))
                self.assertEqual(sum(life[3] for life in found), sum(word[3] for word in told))

    def test_askings_of_two_hundred(self):
        for setup, rule in CASES[-6:]:
            asking = some_askings(5, setup, 200)[0]
            lives = run_tubs(setup, rule, asking)[0].lives
            expected = [(tub["beat"], tub["held"], tub["eaten"], tub["melted"]) for tub in lives]
            self.assertEqual(tub_lives(setup, rule, asking), expected)

    def test_errors(self):
        for thing, place in NO_ASKINGS:
            for rule in [SAVING, HEARING_TUBS]:
                with self.subTest(thing=str(thing)[:60]), self.assertRaises(BadAsking) as caught:
                    tub_lives(SETUP, rule, thing)
                self.assertEqual(caught.exception.place, place)


class Apart(unittest.TestCase):
    def test_by_hand(self):
        self.assertIsNone(tubs_apart(SETUP, SAVING, SAVING * 2))
        self.assertEqual(tubs_apart(setup=SETUP, tubs=SAVING, other=()), [1])
        self.assertEqual(tubs_apart(SETUP, SAVING, READY), [1, 2])
        self.assertIsNone(tubs_apart(SETUP, ((0, ANY, ANY, ANY, ANY, "rest", 1),), ()))

    def test_all_askings(self):
        lengths = []
        pairs = list(zip(CASES, some_tubs(145, 60) + turning_tubs(146, 60)))
        pairs += [((setup, rule), rule[:place] + rule[place + 1:]) for setup, rule in CASES for place in range(len(rule))]
        for (setup, rule), other in pairs:
            found = tubs_apart(setup, rule, other)
            self.assertEqual(found, plain_tubs_apart(setup, rule, other))
            if found is not None:
                lengths.append(len(found))
                self.assertNotEqual(tubs_of(setup, rule, found), tubs_of(setup, other, found))
        self.assertGreaterEqual(max(lengths), 3)

    def test_all_short_askings(self):
        for (setup, rule), other in zip(CASES[:50], some_tubs(147, 50)):
            length = 2 if setup[0] > 2 else 4
            rows = [asking for count in range(length + 1) for asking in askings(setup, count)]
            rows = [row for row in rows if run_tubs(setup, rule, row)[1] != run_tubs(setup, other, row)[1]]
            found = tubs_apart(setup, rule, other)
            if rows or (found is not None and len(found) <= length):
                self.assertEqual(found, rows[0])

    def test_too_many(self):
        rules = turning_tubs(1, 80)
        self.assertEqual(len(tub_pairs(MANY, rules[76], rules[55])), 600)
        self.assertEqual(tubs_apart(MANY, rules[76], rules[55]), plain_tubs_apart(MANY, rules[76], rules[55]))
        self.assertEqual(len(tub_pairs(MANY, rules[55], rules[30])), 603)
        # also where the first asking tells them apart
        self.assertEqual(len(plain_tubs_apart(MANY, rules[55], rules[30])), 1)
        other = changed_at(MANY, (4,), (2, 4))
        self.assertEqual(len(tub_pairs(other, rules[57], rules[65])), 601)
        with self.assertRaises(TooMany):
            tubs_apart(other, rules[57], rules[65])
        for rule, other in [(55, 30), (30, 55), (65, 27)]:
            with self.assertRaises(TooMany):
                tubs_apart(MANY, rules[rule], rules[other])
        with self.assertRaises(NotDeaf):
            tubs_apart(MANY, rules[55], HEARING_TUBS)

    def test_errors(self):
        for thing in NO_TUBS:
            for rule in [SAVING, HEARING_TUBS]:
                with self.subTest(thing=str(thing)), self.assertRaises(BadTubs):
                    tubs_apart(SETUP, rule, thing)
        with self.assertRaises(NotDeaf):
            tubs_apart(SETUP, SAVING, HEARING_TUBS)


class Trimmed(unittest.TestCase):
    def test_by_hand(self):
        self.assertEqual(trimmed(SETUP, ()), ())
        self.assertEqual(trimmed(SETUP, SAVING * 3), SAVING)
        self.assertEqual(trimmed(setup=SETUP, tubs=READY), READY[:2])
        rest = ((1, ANY, ANY, ANY, ANY, "rest", 0), (0, ANY, ANY, ANY, ANY, "rest", 0))
        self.assertEqual(trimmed(SETUP, rest), rest[1:])

    def test_all_rows_carried_out(self):
        fewer = 0
        for setup, rule in CASES:
            expected = tuple(rule[place] for place in used_tubs(setup, rule))
            fewer += 0 < len(expected) < len(rule)
            self.assertEqual(trimmed(setup, rule), expected)
            self.assertIsNone(plain_tubs_apart(setup, rule, expected))
        self.assertGreater(fewer, 20)


class Classes(unittest.TestCase):
    def test_by_hand(self):
        self.assertEqual(tubs_classes(SETUP, ()), [[((), 0)]])
        self.assertEqual(tubs_classes(setup=SETUP, tubs=SAVING), [[((), 0)], [(((1, 1),), 0)]])
        moods = ((0, ANY, ANY, ANY, ANY, "rest", 1), (1, ANY, ANY, ANY, ANY, "rest", 0))
        self.assertEqual(tubs_classes(SETUP, moods), [[((), 0), ((), 1)]])

    def test_all_pairs_of_standings(self):
        several = 0
        for setup, rule in [case for case in CASES if len(met_tubs(*case)) < 16][:80]:
            classes = []
            for place in met_tubs(setup, rule):
                alike = [
                    members for members in classes
                    if plain_tubs_apart(setup, rule, rule, members[0], place) is None
                ]
                if alike:
                    alike[0].append(place)
                else:
                    classes.append([place])
            several += any(len(members) > 1 for members in classes)
            self.assertEqual(tubs_classes(setup, rule), classes)
        self.assertGreater(several, 2)

    def test_they_hold_all_standings(self):
        for setup, rule in CASES:
            self.assertEqual(sorted(sum(tubs_classes(setup, rule), [])), tubs_met(setup, rule))


class Openings(unittest.TestCase):
    def test_by_hand(self):
        self.assertEqual(askings_counted(SETUP, SAVING, []), 1)
        self.assertEqual(asking_back(SETUP, SAVING, []), [])
        self.assertEqual(askings_counted(SETUP, SAVING, [(2,)]), 2)
        self.assertEqual(asking_back(SETUP, SAVING, [(2,)]), [1])
        self.assertEqual(askings_counted(setup=SETUP, tubs=SAVING, openings=[(2,), (2,)]), 2)
        self.assertEqual(asking_back(setup=SETUP, tubs=SAVING, openings=[(2,), (2,)]), [2, 1])
        self.assertEqual(askings_counted(SETUP, SAVING, [(1,)]), 0)
        self.assertIsNone(asking_back(SETUP, SAVING, [(2, 2)]))
        self.assertEqual(askings_counted(SETUP, (), [()] * 30), 3 ** 30)

    def test_all_askings(self):
        for setup, rule in CASES:
            for length in range(4 if setup[0] > 2 else 5):
                found = {}
                for asking in askings(setup, length):
                    openings = tuple(word[0] for word in run_tubs(setup, rule, asking)[1])
                    found.setdefault(openings, []).append(asking)
                others = [((1,),) * length, ((),) * length, ((setup[4][0],),) * length]
                for openings in [*found, *others]:
                    behind = found.get(openings, [])
                    self.assertEqual(askings_counted(setup, rule, list(openings)), len(behind))
                    self.assertEqual(asking_back(setup, rule, list(openings)), behind[0] if behind else None)

    def test_openings_of_thirty(self):
        for place, (setup, rule) in enumerate(CASES[-30:]):
            asking = some_askings(place, setup, 30)[2]
            openings = [word[0] for word in run_tubs(setup, rule, asking)[1]]
            back = asking_back(setup, rule, openings)
            self.assertLessEqual(back, asking)
            self.assertEqual([word[0] for word in run_tubs(setup, rule, back)[1]], openings)
            self.assertGreaterEqual(askings_counted(setup, rule, openings), 1 if back == asking else 2)

    def test_errors(self):
        for asked in [askings_counted, asking_back]:
            for thing in NO_OPENINGS:
                for rule in [SAVING, HEARING_TUBS]:
                    with self.subTest(thing=str(thing)), self.assertRaises(BadOpenings):
                        asked(SETUP, rule, thing)
            with self.assertRaises(NotDeaf):
                asked(SETUP, HEARING_TUBS, [])
            asked(SETUP, SAVING, [(1, 4), (), (3,)] * 10)


def tiny_setups():
    """Setups with so few places that all ways can be searched."""
    for kinds, life, prices in itertools.product([(1,), (2,)], [1, 2], [(0, 1, 1, 0), (1, 2, 5, 3), (0, 5, 2, 0)]):
        yield (1, (1,), (1, 1), (1, 1), kinds, life, prices)
    yield (1, (1,), (1, 1), (1, 1), (1, 2), 1, (0, 3, 2, 0))
    yield (2, (1,), (1, 1), (1, 1), (2,), 1, (0, 3, 2, 0))
    yield (2, (2,), (1, 1), (1, 1), (1, 2), 1, (0, 1, 4, 0))


class Alone(unittest.TestCase):
    def test_by_hand(self):
        self.assertEqual(best_alone(SETUP), (1, 2))
        self.assertEqual(best_alone(setup=changed_at(SETUP, (6,), (5, 0, 5, 5))), (0, 1))
        # each tub that is opened melts: rather nobody is served
        self.assertEqual(best_alone((1, (1,), (1, 0), (0, 0), (4,), 1, (0, 5, 2, 0))), (2, 1))

    def test_all_ways_of_tiny_setups(self):
        for setup in tiny_setups():
            self.assertEqual(best_alone(setup), pair(plain_best_alone(setup)))

    def test_what_it_comes_to_in_many_beats(self):
        for setup in [GREAT, MANY, *some_setups(148, 12)]:
            above, below = best_alone(setup)
            costs = least_costs(setup, 60)
            steps = [
                step for step in range(1, 21)
                if all(below * (costs[beats] - costs[beats - step]) == above * step for beats in [60, 60 - step])
            ]
            self.assertNotEqual(steps, [], setup)
            # a way that holds the mean: no sum of its costs is above it by more than its numbers
            numbers = [entry[3] for entry in alone_way(setup)]
            self.assertTrue(all(
                below * cost - above * beats <= max(numbers) for beats, cost in enumerate(costs)
            ))

    def test_ways_hold(self):
        for setup in [SETUP, GREAT, MANY, *tiny_setups(), *some_setups(149, 25)]:
            mean = best_alone(setup)
            way = alone_way(setup)
            self.assertEqual(way, sorted(way))
            self.assertIs(alone_way_holds(setup, mean, way), True)
            self.assertIs(plain_way_holds(setup, mean, way), True)
            self.assertIs(alone_way_holds(setup, mean, way[::-1]), True)
            self.assertIs(alone_way_holds(setup, (mean[0] * 10 ** 9 - 1, mean[1] * 10 ** 9), way), False)
            twice = [entry[:3] + (2 * entry[3],) for entry in way]
            self.assertIs(alone_way_holds(setup, (mean[0] * 2, mean[1] * 2), twice), True)

    def test_changed_ways(self):
        held = [0, 0]
        for setup in [SETUP, *itertools.islice(tiny_setups(), 6), *some_setups(150, 6)]:
            mean = best_alone(setup)
            for way in changed_ways(setup, alone_way(setup)):
                expected = plain_way_holds(setup, mean, way)
                held[expected] += 1
                self.assertIs(alone_way_holds(setup, mean, way), expected)
        self.assertGreater(min(held), 100)

    def test_all_places(self):
        for setup in [SETUP, MANY]:
            # one number for all: each rest costs at most the mean then
            dearest = max(done(setup, tubs, asked, "rest")[1] for tubs, asked in places_alone(setup))
            way = [(tubs, asked, "rest", -7) for tubs, asked in places_alone(setup)]
            self.assertIs(alone_way_holds(setup, (dearest, 1), way), True)
            for deed in ["go", "group", None, 0, b"rest"]:
                wrong = [entry if entry[:2] != ((), 0) else ((), 0, deed, -7) for entry in way]
                self.assertIs(alone_way_holds(setup, (dearest, 1), wrong), False)
            self.assertIs(alone_way_holds(setup, (10 * dearest - 1, 10), way), False)
        most = changed_at(MANY, (4,), (1, 4))
        self.assertEqual(len(places_alone(most)), 275)
        mean = best_alone(most)
        self.assertIs(plain_way_holds(most, mean, alone_way(most)), True)
        self.assertIs(alone_way_holds(most, mean, alone_way(most)), True)

    def test_each_first_asking_stands_in_it(self):
        # a further tub is opened at each beat, so that some tub is always open
        setup = (1, (1,), (1, 0), (1, 0), (4,), 3, (1, 1, 1, 1))

        def deed_at(tubs):
            return "small" if len(tubs) < 2 and (not tubs or tubs[-1][0] > 0) else "rest"

        def way_from(asks):
            known, fresh = set(), [((), asked) for asked in asks]
            while fresh:
                tubs, asked = fresh.pop()
                if (tubs, asked) not in known:
                    known.add((tubs, asked))
                    deed = deed_at(tubs)
                    after, _ = done(setup, tubs, asked, deed)
                    fresh += [(after, coming) for coming in [0, 1]] if deed == "rest" else [(after, asked)]
            return [(tubs, asked, deed_at(tubs), 0) for tubs, asked in sorted(known)]

        for asks, expected in [([0, 1], True), ([0], False), ([1], False)]:
            self.assertIs(alone_way_holds(setup, (99, 1), way_from(asks)), expected)
            self.assertIs(plain_way_holds(setup, (99, 1), way_from(asks)), expected)

    def test_other_objects(self):
        way = alone_way(SETUP)
        first = way[0]
        entries = [
            None, True, 0, (), first[:3], first + (0,), list(first), ([], 0, "rest", 9), ((), True, "rest", 9),
            ((), False, "rest", 9), ((), None, "rest", 9), ((), "0", "rest", 9), ((), 3, "rest", 9), ((), -1, "rest", 9),
            ((), 0, "go", 9), ((), 0, None, 9), ((), 0, b"rest", 9), ((), 0, "rest", None), ((), 0, "rest", True),
            ((), 0, "rest", "9"), (((True, 1),), 0, "rest", 9), (((1, True),), 0, "rest", 9), ([(1, 1)], 0, "rest", 9),
            (((2, 1),), 0, "rest", 9), (((1, 3),), 0, "rest", 9), (([1, 1],), 0, "rest", 9),
            (((0, 2), (0, 2)), 0, "small", 99), (((0, 2), (1, 1)), 0, "rest", 9), (((1, (1,)),), 0, "rest", 9),
            (({},), 0, "rest", 9), ({}, 0, "rest", 9), (((0, 2), (0, 2), (0, 2)), 0, "rest", 9),
        ]
        self.assertIs(alone_way_holds(setup=SETUP, fraction=(9, 1), thing=way), True)
        for entry in entries:
            with self.subTest(entry=str(entry)):
                self.assertIs(alone_way_holds(SETUP, (9, 1), [entry]), False)
                self.assertIs(alone_way_holds(SETUP, (9, 1), way[1:] + [entry]), False)
                self.assertIs(alone_way_holds(SETUP, (9, 1), way + [entry]), False)
        for thing in [*NO_THINGS, tuple(way), dict.fromkeys(way), [way]]:
            with self.subTest(thing=str(thing)):
                self.assertIs(alone_way_holds(SETUP, (9, 1), thing), False)
        deep = ()
        for _ in range(90):
            deep = (deep,)
        self.assertIs(alone_way_holds(SETUP, (9, 1), way + [(deep, 0, "rest", 9)]), False)

    def test_errors(self):
        for thing in NO_SETUPS:
            with self.assertRaises(BadSetup):
                best_alone(thing)
            with self.assertRaises(BadSetup):
                alone_way(thing)
            with self.assertRaises(BadSetup):
                alone_way_holds(thing, None, None)
        for thing in NO_FRACTIONS:
            with self.assertRaises(BadFraction):
                alone_way_holds(SETUP, thing, None)


def changed_ways(setup, way):
    for place, (tubs, asked, deed, number) in enumerate(way):
        yield way[:place] + way[place + 1:]
        yield way + [way[place]]
        yield way + [(tubs, asked, deed, number + 1)]
        for step in [-3, -1, 1, 3]:
            yield way[:place] + [(tubs, asked, deed, number + step)] + way[place + 1:]
        for other in ["small", "great", "rest"]:
            yield way[:place] + [(tubs, asked, other, number)] + way[place + 1:]
    inside = [(tubs, asked) for tubs, asked, _, _ in way]
    for tubs, asked in sorted(places_alone(setup)):
        if (tubs, asked) not in inside:
            for deed, number in itertools.product(deeds_at(tubs), [-50, 0, 50]):
                yield way + [(tubs, asked, deed, number)]


class Known(unittest.TestCase):
    def test_by_hand(self):
        self.assertEqual(asked_best(SETUP, []), 0)
        self.assertEqual(best_openings(SETUP, []), [])
        self.assertEqual(asked_best(SETUP, [1, 0, 0]), 1)
        self.assertEqual(best_openings(SETUP, [1, 0, 0]), [(2,), (), ()])
        self.assertEqual(asked_best(setup=SETUP, asking=[1, 1]), 0)
        self.assertEqual(best_openings(setup=SETUP, asking=[1, 1]), [(2,), ()])
        # of equal costs the first openings
        free = changed_at(SETUP, (6,), (1, 0, 0, 1))
        self.assertEqual(best_openings(free, [2, 2, 1]), [(), (), ()])

    def test_all_openings(self):
        for setup in [SETUP, MANY, *some_setups(151, 25)]:
            for asking in [asking for count in range(4) for asking in askings(setup, count)][::7 if setup[0] > 2 else 1]:
                found = all_opened(setup, asking)
                least = min(cost for _, cost in found)
                self.assertEqual(asked_best(setup, asking), least)
                self.assertEqual(best_openings(setup, asking), [opened for opened, cost in found if cost == least][0])

    def test_long_askings(self):
        for place, setup in enumerate([GREAT, MANY, *some_setups(152, 8)]):
            asking = some_askings(place, setup, 200)[0]
            openings = best_openings(setup, asking)
            self.assertEqual(opened_cost(setup, asking, openings), asked_best(setup, asking))
            for rule in [(), SAVING, READY]:
                told = run_tubs(setup, rule, asking)[1]
                cost = sum(word[3] * setup[6][1] + word[2] * setup[6][2] for word in told)
                self.assertLessEqual(asked_best(setup, asking), cost)
            short = asking[:100]
            self.assertLessEqual(asked_best(setup, short), asked_best(setup, asking))

    def test_errors(self):
        for asked in [asked_best, best_openings]:
            for thing in NO_SETUPS:
                with self.assertRaises(BadSetup):
                    asked(thing, None)
            for thing, place in NO_ASKINGS:
                with self.subTest(thing=str(thing)[:60]), self.assertRaises(BadAsking) as caught:
                    asked(SETUP, thing)
                self.assertEqual(caught.exception.place, place)


def opened_cost(setup, asking, openings):
    tubs, total = (), 0
    for asked, opened in zip(asking, openings, strict=True):
        assert all(kind in setup[4] for kind in opened) and len(tubs) + len(opened) <= 2
        tubs, cost = done(setup, tubs + tuple((0, kind) for kind in opened), asked, "rest")
        total += cost
    return total


class Errors(unittest.TestCase):
    def test_setup_and_rule(self):
        asked = [
            (tub_lives, [[]]), (tubs_apart, [SAVING]), (trimmed, []), (tubs_classes, []), (askings_counted, [[]]),
            (asking_back, [[]]),
        ]
        for function, further in asked:
            for thing in NO_SETUPS:
                with self.subTest(function=function.__name__, thing=str(thing)), self.assertRaises(BadSetup):
                    function(thing, None, *[None for _ in further])
            for thing in NO_TUBS:
                with self.subTest(function=function.__name__, thing=str(thing)), self.assertRaises(BadTubs):
                    function(SETUP, thing, *[None for _ in further])
                with self.assertRaises(BadTubs):
                    function(SETUP, thing, *further)
            with self.assertRaises(NotDeaf):
                function(SETUP, HEARING_TUBS, *further)

    def test_a_shortest_asking_is_one(self):
        for setup, rule in CASES[:20]:
            asking = never_short(setup, rule)
            if asking is not None:
                self.assertGreater(tubs_of(setup, rule, asking)[-1][2], 0)
                self.assertIn(tubs_after(setup, rule, asking), tubs_met(setup, rule))
        self.assertEqual(tubs_after(SETUP, SAVING, []), CLOSED)


if __name__ == "__main__":
    unittest.main()
