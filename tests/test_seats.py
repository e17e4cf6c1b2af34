import itertools
import unittest

from parlourday.errors import BadCount, BadRow, BadSeats, BadSetup, BadWhat, NotDeaf
from parlourday.seats import asked_rows, seats_after, seats_met, seats_of, seats_web
from parlourday.setups import all_comers
from parlourday.webs import is_web, walk_end

from tests.plain_parlour import (
    ANY, EAGER, GREAT, HEARING, LAZY, NO_ROWS, NO_SEATS, NO_SETUPS, SETUP, UNFAIR, changed_at, comers_of, plain_web,
    rows_of, run, sat, seats_beat, small_setups, some_rows, some_seats, some_setups, standings_by, told,
    turning_seats,
)
from tests.plain_search import NO_COUNTS

EXAMPLE = ((0, (1, 2), ANY, ANY, ANY, "group", 0),)
# seats one single at a beat, then rests in mood 1 for a beat
MOODY = ((0, ANY, ANY, (1, 9), ANY, "single", 1), (1, ANY, (0, 3), ANY, ANY, "go", 2), (2, ANY, ANY, ANY, ANY, "go", 0))
CASES = list(zip(some_setups(101, 150), some_seats(102, 75) + turning_seats(106, 75)))
CASES += [(GREAT, rule) for rule in [LAZY, EAGER, UNFAIR, MOODY, *some_seats(103, 20)]] + [(SETUP, EXAMPLE)]
SMALL = list(zip(small_setups(104, 60), some_seats(105, 30) + turning_seats(107, 30)))
WORDS = ["empty", "away", "seated", "cost"]
NO_WORDS = [None, True, 0, "", "Empty", "served", "unserved", "melted", b"cost", ("cost",), ["cost"], {}]


def plain_count(setup, what, word):
    deeds, empty, away = word
    prices = setup[6]
    return {
        "empty": empty, "away": away, "seated": sum(size for _, size in deeds), "cost": empty * prices[0] + away * prices[3],
    }[what]


def met(setup, rule):
    return standings_by(
        setup, ((), 0, 0), lambda standing: [seats_beat(setup, rule, standing, comers)[0] for comers in comers_of(setup)]
    )


class Rows(unittest.TestCase):
    def test_by_hand(self):
        self.assertEqual(seats_of(SETUP, EXAMPLE, []), [])
        self.assertEqual(seats_after(SETUP, EXAMPLE, []), ((), 0, 0))
        row = [((1,), 0), ((), 0), ((2,), 0)]
        expected = [((("group", 1),), 0, 0), ((), 0, 0), ((("group", 2),), 0, 0)]
        self.assertEqual(seats_of(SETUP, EXAMPLE, row), expected)
        self.assertEqual(seats_of(setup=SETUP, seats=LAZY, row=[((2,), 0)] * 3), [((), 2, 0), ((), 2, 0), ((), 2, 2)])
        self.assertEqual(seats_after(setup=SETUP, seats=LAZY, row=[((2,), 0), ((1,), 0)] * 9), ((2, 1), 0, 0))
        self.assertEqual(seats_of(GREAT, EAGER, [((2,), 2)]), [((("group", 2), ("single", 1), ("single", 1)), 0, 0)])

    def test_moods_and_left(self):
        row = [((), 2)] * 5
        self.assertEqual(
            seats_of(GREAT, MOODY, row),
            [((("single", 1),), 3, 0), ((), 4, 1), ((("single", 1),), 3, 2), ((), 4, 1), ((("single", 1),), 3, 2)],
        )
        self.assertEqual(seats_after(GREAT, MOODY, row), ((), 1, 2))
        self.assertEqual(seats_after(GREAT, MOODY, row[:1]), ((), 1, 2))
        never_full = ((0, ANY, (3, 9), ANY, ANY, "single", 0),)
        self.assertEqual(seats_of(GREAT, never_full, row[:2])[1], ((("single", 1), ("single", 1)), 0, 0))
        front = ((0, (1, 1), ANY, ANY, ANY, "group", 0), (0, (0, 0), ANY, ANY, ANY, "single", 0))
        self.assertEqual(seats_of(GREAT, front, [((2,), 1), ((1,), 1)]), [((), 4, 0), ((), 4, 0)])
        self.assertEqual(seats_of(GREAT, front, [((1,), 1)]), [((("group", 1), ("single", 1)), 0, 0)])

    def test_no_room_is_judged_ahead_of_seating(self):
        one = changed_at(SETUP, (2,), (1, 0))
        wait = ((0, ANY, ANY, ANY, ANY, "go", 1), (1, ANY, ANY, ANY, ANY, "group", 1))
        self.assertEqual(seats_of(one, wait, [((1,), 0), ((2,), 0)]), [((), 2, 0), ((("group", 1),), 0, 2)])

    def test_told_one_by_one(self):
        for place, (setup, rule) in enumerate(CASES):
            for row in some_rows(place, setup, 3, 25):
                house, bills = run(setup, rule, row)
                self.assertEqual(seats_of(setup, rule, row), [bill[:3] for bill in bills])
                self.assertEqual(seats_after(setup, rule, row), house.seats_standing())

    def test_rows_of_two_hundred(self):
        for setup, rule in CASES[-12:]:
            row = some_rows(7, setup, 1, 200)[0]
            self.assertEqual(seats_of(setup, rule, row), told(setup, rule, row))

    def test_errors(self):
        for asked in [seats_of, seats_after]:
            for thing in NO_SETUPS:
                with self.subTest(thing=str(thing)), self.assertRaises(BadSetup):
                    asked(thing, None, None)
            for thing in NO_SEATS:
                with self.subTest(thing=str(thing)), self.assertRaises(BadSeats):
                    asked(SETUP, thing, None)
            for thing, place in NO_ROWS:
                for rule in [EAGER, HEARING]:
                    with self.subTest(thing=str(thing)[:60]), self.assertRaises(BadRow) as caught:
                        asked(SETUP, rule, thing)
                    self.assertEqual(caught.exception.place, place)
            with self.assertRaises(NotDeaf):
                asked(SETUP, HEARING, [])
            with self.assertRaises(NotDeaf):
                asked(SETUP, ((0, ANY, ANY, ANY, (0, 8), "go", 0),), [])


class Met(unittest.TestCase):
    def test_by_hand(self):
        self.assertEqual(seats_met(SETUP, EXAMPLE), [((), 0, 0)])
        self.assertEqual(
            seats_met(setup=SETUP, seats=LAZY),
            [((), 0, 0), ((1,), 0, 0), ((1, 1), 0, 0), ((1, 2), 0, 0), ((2,), 0, 0), ((2, 1), 0, 0), ((2, 2), 0, 0)],
        )

    def test_all_short_rows(self):
        for setup, rule in SMALL:
            short = sorted({run(setup, rule, row)[0].seats_standing() for count in range(5) for row in rows_of(setup, count)})
            found = seats_met(setup, rule)
            self.assertLessEqual(set(short), set(found))
            self.assertEqual(found, met(setup, rule))

    def test_all_standings(self):
        for setup, rule in CASES:
            self.assertEqual(seats_met(setup, rule), met(setup, rule))


class Webs(unittest.TestCase):
    def test_by_hand(self):
        self.assertEqual(seats_web(SETUP, EXAMPLE, "seated"), (((0, 0), (1, 0), (2, 0)),))
        one = changed_at(changed_at(SETUP, (2,), (1, 0)), (6,), (3, 0, 0, 4))
        self.assertEqual(seats_web(one, LAZY, "empty")[0], ((0, 0), (2, 1), (2, 2)))
        self.assertEqual(seats_web(one, LAZY, "away")[2], ((0, 2), (1, 2), (2, 2)))
        self.assertEqual(seats_web(setup=one, seats=LAZY, what="cost")[1], ((6, 1), (10, 1), (14, 1)))

    def test_each_word(self):
        for setup, rule in CASES:
            places = met(setup, rule)
            for what in WORDS:
                web = seats_web(setup, rule, what)
                self.assertIs(is_web(web), True)
                self.assertEqual(web, plain_web(
                    places, lambda place: [seats_beat(setup, rule, place, comers) for comers in comers_of(setup)],
                    lambda word: plain_count(setup, what, word),
                ))

    def test_walks_are_rows(self):
        for place, (setup, rule) in enumerate(CASES[:40]):
            row = some_rows(place, setup, 1, 30)[0]
            walk = [all_comers(setup).index(comers) for comers in row]
            for what in WORDS:
                node, total = walk_end(seats_web(setup, rule, what), walk)
                self.assertEqual(seats_met(setup, rule)[node], seats_after(setup, rule, row))
                self.assertEqual(total, sum(plain_count(setup, what, word) for word in told(setup, rule, row)))

    def test_errors(self):
        for thing in NO_SETUPS:
            with self.assertRaises(BadSetup):
                seats_web(thing, None, None)
            with self.assertRaises(BadSetup):
                seats_met(thing, None)
        for thing in NO_SEATS:
            with self.assertRaises(BadSeats):
                seats_web(SETUP, thing, None)
            with self.assertRaises(BadSeats):
                seats_met(SETUP, thing)
        for thing in NO_WORDS:
            for rule in [EAGER, HEARING]:
                with self.subTest(thing=str(thing)), self.assertRaises(BadWhat):
                    seats_web(SETUP, rule, thing)
        with self.assertRaises(NotDeaf):
            seats_web(SETUP, HEARING, "cost")
        with self.assertRaises(NotDeaf):
            seats_met(SETUP, HEARING)


class Asked(unittest.TestCase):
    def test_by_hand(self):
        self.assertEqual(asked_rows(SETUP, EXAMPLE, 0), [()])
        self.assertEqual(asked_rows(SETUP, EXAMPLE, 1), [(0,), (1,), (2,)])
        self.assertEqual(asked_rows(setup=SETUP, seats=LAZY, count=3), [(0, 0, 0)])

    def test_all_short_rows(self):
        for (setup, rule), count in itertools.product(SMALL, range(5)):
            rows = {tuple(sat(bill) for bill in run(setup, rule, row)[1]) for row in rows_of(setup, count)}
            self.assertEqual(asked_rows(setup, rule, count), sorted(rows))

    def test_errors(self):
        for thing in NO_SETUPS:
            with self.assertRaises(BadSetup):
                asked_rows(thing, None, None)
        for thing in NO_SEATS:
            with self.assertRaises(BadSeats):
                asked_rows(SETUP, thing, None)
        for thing in [*NO_COUNTS, 5]:
            for rule in [EAGER, HEARING]:
                with self.subTest(thing=str(thing)), self.assertRaises(BadCount):
                    asked_rows(SETUP, rule, thing)
        with self.assertRaises(NotDeaf):
            asked_rows(SETUP, HEARING, 1)


if __name__ == "__main__":
    unittest.main()
