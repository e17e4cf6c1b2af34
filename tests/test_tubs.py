import itertools
import unittest

from parlourday.errors import BadAsking, BadCount, BadSetup, BadTubs, BadWhat, NotDeaf
from parlourday.tubs import is_tubs, never_melts, never_short, open_for, tubs_after, tubs_met, tubs_of, tubs_web
from parlourday.webs import is_web, walk_end

from tests.plain_parlour import (
    ANY, GREAT, NO_SETUPS, SETUP, askings_up_to, changed_at, plain_web, run_tubs, some_setups, some_tubs,
    tubs_beat, turning_tubs,
)
from tests.plain_search import NO_COUNTS
from tests.plain_tubs import HEARING_TUBS, NO_ASKINGS, NO_TUBS, READY, SAVING, first_asking, met_tubs

CASES = list(zip(some_setups(131, 200), some_tubs(132, 100) + turning_tubs(133, 100)))
CASES += [(GREAT, rule) for rule in [(), SAVING, READY, *turning_tubs(134, 15)]] + [(SETUP, SAVING), (SETUP, READY)]
WORDS = ["served", "unserved", "melted", "cost"]
NO_WORDS = [None, True, 0, "", "Served", "empty", "away", "seated", b"cost", ("cost",), ["cost"], {}]


def plain_count(setup, what, word):
    _, served, unserved, melted = word
    cost = melted * setup[6][1] + unserved * setup[6][2]
    return {"served": served, "unserved": unserved, "melted": melted, "cost": cost}[what]


def some_askings(place, setup, length):
    return [[(place + 3 * at + at * at // (2 + turn)) % (setup[0] + 1) for at in range(length)] for turn in range(3)]


class Rules(unittest.TestCase):
    def test_right_ones(self):
        for rule in [(), SAVING, READY, HEARING_TUBS, SAVING * 6, *some_tubs(135, 200), *some_tubs(136, 100, deaf=False)]:
            self.assertIs(is_tubs(rule), True)
        for low, high in itertools.combinations_with_replacement(range(10), 2):
            for place in [1, 2, 3, 4]:
                self.assertIs(is_tubs(thing=(changed_at(SAVING[0], (place,), (low, high)),)), True)
        for mood, after, deed in itertools.product(range(3), range(3), ["small", "great", "rest"]):
            self.assertIs(is_tubs(((mood, ANY, ANY, ANY, ANY, deed, after),)), True)

    def test_other_objects(self):
        for thing in NO_TUBS:
            with self.subTest(thing=str(thing)):
                self.assertIs(is_tubs(thing), False)


class Askings(unittest.TestCase):
    def test_by_hand(self):
        self.assertEqual(tubs_of(SETUP, SAVING, []), [])
        self.assertEqual(tubs_after(SETUP, SAVING, []), ((), 0))
        self.assertEqual(tubs_of(SETUP, SAVING, [1, 0, 0]), [((2,), 1, 0, 0), ((), 0, 0, 1), ((), 0, 0, 0)])
        self.assertEqual(tubs_after(SETUP, SAVING, [1]), (((1, 1),), 0))
        self.assertEqual(tubs_of(setup=SETUP, tubs=(), asking=[2]), [((), 0, 2, 0)])
        self.assertEqual(tubs_after(setup=SETUP, tubs=SAVING, asking=[1, 1]), ((), 0))

    def test_two_tubs(self):
        # the tub that was opened first is eaten from first, then the other one
        self.assertEqual(tubs_of(GREAT, READY, [4]), [((3, 3), 4, 0, 0)])
        self.assertEqual(tubs_after(GREAT, READY, [4]), (((1, 2),), 0))
        self.assertEqual(tubs_after(GREAT, READY, [4, 4]), (((1, 1),), 0))
        self.assertEqual(tubs_of(GREAT, READY, [4, 4, 0, 0])[2:], [((), 0, 0, 0), ((), 0, 0, 1)])
        both = (
            (0, ANY, (0, 0), (9, 9), ANY, "small", 1), (1, ANY, (1, 1), (0, 0), ANY, "great", 2),
            (2, ANY, ANY, ANY, ANY, "rest", 0),
        )
        self.assertEqual(tubs_of(GREAT, both, [0, 2]), [((1, 3), 0, 0, 0), ((), 2, 0, 0)])
        self.assertEqual(tubs_after(GREAT, both, [0, 2]), (((2, 2),), 0))
        third = ((0, ANY, ANY, ANY, ANY, "small", 0),)
        self.assertEqual(tubs_of(GREAT, third, [4]), [((1, 1), 2, 2, 0)])

    def test_they_melt_at_the_end_of_their_life(self):
        for life in [1, 2, 3]:
            setup = changed_at(SETUP, (5,), life)
            told = tubs_of(setup, SAVING, [1, 0, 0, 0])
            self.assertEqual([word[3] for word in told], [1 if beat == life - 1 else 0 for beat in range(4)])

    def test_told_one_by_one(self):
        for place, (setup, rule) in enumerate(CASES):
            for asking in some_askings(place, setup, 30):
                house, told = run_tubs(setup, rule, asking)
                self.assertEqual(tubs_of(setup, rule, asking), told)
                self.assertEqual(tubs_after(setup, rule, asking), (house.tubs_now(), house.moods[1]))

    def test_askings_of_two_hundred(self):
        for setup, rule in CASES[-10:]:
            asking = some_askings(5, setup, 200)[0]
            self.assertEqual(tubs_of(setup, rule, asking), run_tubs(setup, rule, asking)[1])

    def test_errors(self):
        for asked in [tubs_of, tubs_after]:
            for thing in NO_SETUPS:
                with self.subTest(thing=str(thing)), self.assertRaises(BadSetup):
                    asked(thing, None, None)
            for thing in NO_TUBS:
                with self.subTest(thing=str(thing)), self.assertRaises(BadTubs):
                    asked(SETUP, thing, None)
            for thing, place in NO_ASKINGS:
                for rule in [SAVING, HEARING_TUBS]:
                    with self.subTest(thing=str(thing)[:60]), self.assertRaises(BadAsking) as caught:
                        asked(SETUP, rule, thing)
                    self.assertEqual(caught.exception.place, place)
            with self.assertRaises(NotDeaf):
                asked(SETUP, HEARING_TUBS, [])


class Met(unittest.TestCase):
    def test_by_hand(self):
        self.assertEqual(tubs_met(SETUP, ()), [((), 0)])
        self.assertEqual(tubs_met(setup=SETUP, tubs=SAVING), [((), 0), (((1, 1),), 0)])

    def test_all_standings(self):
        most = 0
        for setup, rule in CASES:
            places = met_tubs(setup, rule)
            most = max(most, len(places))
            self.assertEqual(tubs_met(setup, rule), places)
            for what in WORDS:
                web = tubs_web(setup, rule, what)
                self.assertIs(is_web(web), True)
                self.assertEqual(web, plain_web(
                    places, lambda place: [tubs_beat(setup, rule, place, asked) for asked in range(setup[0] + 1)],
                    lambda word: plain_count(setup, what, word),
                ))
        self.assertGreater(most, 30)

    def test_short_askings(self):
        for setup, rule in CASES[:40]:
            length = 3 if setup[0] > 2 else 5
            houses = [run_tubs(setup, rule, asking)[0] for asking in askings_up_to(setup, length)]
            self.assertLessEqual({(house.tubs_now(), house.moods[1]) for house in houses}, set(tubs_met(setup, rule)))

    def test_walks_are_askings(self):
        for place, (setup, rule) in enumerate(CASES[:60]):
            asking = some_askings(place, setup, 20)[1]
            for what in WORDS:
                node, total = walk_end(tubs_web(setup, rule, what), asking)
                self.assertEqual(tubs_met(setup, rule)[node], tubs_after(setup, rule, asking))
                self.assertEqual(total, sum(plain_count(setup, what, word) for word in tubs_of(setup, rule, asking)))

    def test_by_hand_each_word(self):
        setup = changed_at(SETUP, (6,), (0, 3, 5, 0))
        self.assertEqual(tubs_web(setup, (), "unserved"), (((0, 0), (1, 0), (2, 0)),))
        self.assertEqual(tubs_web(setup, (), "cost"), (((0, 0), (5, 0), (10, 0)),))
        self.assertEqual(tubs_web(setup, SAVING, "served"), (((0, 0), (1, 1), (2, 0)), ((0, 0), (1, 0), (1, 0))))
        self.assertEqual(tubs_web(setup, SAVING, "melted"), (((0, 0), (0, 1), (0, 0)), ((1, 0), (0, 0), (0, 0))))
        self.assertEqual(tubs_web(setup=setup, tubs=SAVING, what="cost")[1], ((3, 0), (0, 0), (5, 0)))

    def test_errors(self):
        for thing in NO_SETUPS:
            with self.assertRaises(BadSetup):
                tubs_met(thing, None)
            with self.assertRaises(BadSetup):
                tubs_web(thing, None, None)
        for thing in NO_TUBS:
            with self.assertRaises(BadTubs):
                tubs_met(SETUP, thing)
            with self.assertRaises(BadTubs):
                tubs_web(SETUP, thing, None)
        for thing in NO_WORDS:
            for rule in [SAVING, HEARING_TUBS]:
                with self.subTest(thing=str(thing)), self.assertRaises(BadWhat):
                    tubs_web(SETUP, rule, thing)
        with self.assertRaises(NotDeaf):
            tubs_met(SETUP, HEARING_TUBS)
        with self.assertRaises(NotDeaf):
            tubs_web(SETUP, HEARING_TUBS, "cost")


class OpenFor(unittest.TestCase):
    def test_by_hand(self):
        self.assertEqual(open_for(SETUP, "small", 1), ((0, (1, 9), (0, 0), (0, 9), (0, 9), "small", 0),))
        self.assertEqual(open_for(setup=SETUP, deed="great", number=2), (
            (0, (1, 9), (0, 0), (0, 9), (0, 9), "great", 0), (0, (2, 9), (0, 1), (0, 9), (0, 9), "great", 0),
        ))
        self.assertEqual(open_for(GREAT, "great", 4), READY)

    def test_they_open_as_long_as_too_few_are_open(self):
        for setup, number, deed in itertools.product(some_setups(137, 30), [1, 2, 3, 4], ["small", "great"]):
            rule = open_for(setup, deed, number)
            self.assertIs(is_tubs(rule), True)
            kind = setup[4][0] if deed == "small" else setup[4][-1]
            for (tubs, _), asked in itertools.product(met_tubs(setup, rule), range(setup[0] + 1)):
                count, portions = len(tubs), sum(left for _, left in tubs)
                while count < 2 and portions < min(asked, number):
                    count, portions = count + 1, portions + kind
                _, word = tubs_beat(setup, rule, (tubs, 0), asked)
                self.assertEqual(word[0], (kind,) * (count - len(tubs)))
                self.assertEqual(tubs_beat(setup, rule, (tubs, 0), asked)[1], word)

    def test_errors(self):
        for thing in NO_SETUPS:
            with self.assertRaises(BadSetup):
                open_for(thing, None, None)
        for thing in [None, True, 0, "", "rest", "Small", "go", b"small", ("small",), ["great"]]:
            with self.subTest(thing=str(thing)), self.assertRaises(BadWhat):
                open_for(SETUP, thing, None)
        for thing in [*NO_COUNTS, 0, 5]:
            with self.subTest(thing=str(thing)), self.assertRaises(BadCount):
                open_for(SETUP, "small", thing)


class Never(unittest.TestCase):
    def test_by_hand(self):
        self.assertEqual(never_short(SETUP, ()), [1])
        self.assertIsNone(never_melts(setup=SETUP, tubs=()))
        self.assertIsNone(never_short(changed_at(SETUP, (5,), 1), open_for(SETUP, "small", 2)))
        # one portion is left for the second beat, and none may be opened while it is
        self.assertEqual(never_short(setup=SETUP, tubs=SAVING), [1, 2])
        self.assertEqual(never_melts(SETUP, SAVING), [1, 0])

    def test_all_askings(self):
        lengths = {"short": [], "melts": []}
        for setup, rule in CASES:
            for name, found, hit in [
                ("short", never_short(setup, rule), lambda word: word[2] > 0),
                ("melts", never_melts(setup, rule), lambda word: word[3] > 0),
            ]:
                self.assertEqual(found, first_asking(setup, rule, hit))
                lengths[name].append(None if found is None else len(found))
        for found in lengths.values():
            self.assertIn(None, found)
            self.assertGreaterEqual(max(count for count in found if count is not None), 3)

    def test_all_short_askings(self):
        for setup, rule in CASES[:60]:
            length = 2 if setup[0] > 2 else 4
            for asked, place in [(never_short, 2), (never_melts, 3)]:
                hits = [
                    asking for asking in askings_up_to(setup, length)
                    if any(word[place] for word in run_tubs(setup, rule, asking)[1])
                ]
                found = asked(setup, rule)
                if hits or (found is not None and len(found) <= length):
                    self.assertEqual(found, hits[0])

    def test_errors(self):
        for asked in [never_short, never_melts]:
            for thing in NO_SETUPS:
                with self.assertRaises(BadSetup):
                    asked(thing, None)
            for thing in NO_TUBS:
                with self.assertRaises(BadTubs):
                    asked(SETUP, thing)
            with self.assertRaises(NotDeaf):
                asked(SETUP, HEARING_TUBS)


if __name__ == "__main__":
    unittest.main()
