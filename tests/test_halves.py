import unittest
from fractions import Fraction

from parlourday.errors import BadRule, BadSeats, BadSetup, NotDeaf, TooMany
from parlourday.halves import first_unasked, halves, least_open, meeting, reset_row, safe, short_of
from parlourday.longrun import long_mean, long_ring_holds
from parlourday.rings import mean_most
from parlourday.seats import seats_web
from parlourday.tubs import open_for, tubs_web

from tests.cases import (
    OPEN_MANY, RESETS_600, RESETS_601, UNASKED_4, UNASKED_600, UNASKED_601, UNASKED_7, UNSAFE_7,
)
from tests.plain_house import (
    BOTH_HEAR, MANY, MEET_120, MEET_121, MEET_600, MEET_601, MEET_MORE, NO_RULES, RULE, START, met_house,
    plain_count, plain_house_web, some_houses,
)
from tests.plain_pairs import seats_standings, seats_told, sets_met, short_rows
from tests.plain_parlour import (
    EAGER, GREAT, HEARING, NO_SEATS, NO_SETUPS, SETUP, UNFAIR, changed_at, comers_of, first_row, house_beat, plain_web,
    run, sat, seats_beat, small_setups, some_seats, some_setups, some_tubs, turning_seats,
    turning_tubs,
)
from tests.plain_search import means, pair
from tests.plain_tubs import HEARING_TUBS, READY, SAVING, met_tubs, tubs_beat

DEAF = [
    case for case in zip(
        some_setups(401, 80),
        zip(some_seats(402, 40) + turning_seats(403, 40), turning_tubs(404, 40) + some_tubs(405, 40)),
    ) if len(met_house(*case, 120)) <= 120
]
SMALL = [
    case for case in zip(small_setups(406, 400), zip(turning_seats(407, 400), turning_tubs(408, 400)))
    if len(met_house(*case, 9)) <= 9
][:60]
DEAF += [(SETUP, RULE), (GREAT, (EAGER, SAVING)), (SETUP, (UNFAIR, READY))]
ALL = some_houses(409, 60) + DEAF[:30] + [(SETUP, BOTH_HEAR), (GREAT, (EAGER, READY))]


def plain_halves(setup, rule):
    """The three greatest means by all simple rings of small webs."""
    seats = plain_web(
        seats_standings(setup, rule[0]),
        lambda place: [seats_beat(setup, rule[0], place, comers) for comers in comers_of(setup)],
        lambda word: word[1] * setup[6][0] + word[2] * setup[6][3],
    )
    tubs = plain_web(
        met_tubs(setup, rule[1]),
        lambda place: [tubs_beat(setup, rule[1], place, asked) for asked in range(setup[0] + 1)],
        lambda word: word[2] * setup[6][2] + word[3] * setup[6][1],
    )
    return tuple(max(means(web)) for web in (seats, tubs, plain_house_web(setup, rule, "cost")))


class Halves(unittest.TestCase):
    def test_by_hand(self):
        # groups of one and two in turn: one asks for a new tub of two, and of two one is unserved
        self.assertEqual(halves(SETUP, RULE), ((0, 1), (1, 1), (1, 1)))
        self.assertEqual(short_of(SETUP, RULE), (0, 1))
        self.assertIs(long_ring_holds(SETUP, RULE, "cost", (1, 1), meeting(SETUP, RULE)), True)
        # with nobody coming the tubs alone still cost, the house does not
        alone = changed_at(SETUP, (3,), (0, 0))
        self.assertEqual(halves(setup=alone, rule=RULE), ((0, 1), (1, 1), (0, 1)))
        self.assertEqual(short_of(setup=alone, rule=RULE), (1, 1))
        self.assertIsNone(meeting(setup=alone, rule=RULE))

    def test_all_rings_of_small_webs(self):
        some = set()
        for setup, rule in SMALL:
            if len(seats_standings(setup, rule[0])) <= 8 and len(met_tubs(setup, rule[1])) <= 8:
                seats, tubs, house = plain_halves(setup, rule)
                self.assertEqual(halves(setup, rule), (pair(seats), pair(tubs), pair(house)))
                self.assertEqual(short_of(setup, rule), pair(seats + tubs - house))
                some.add((seats + tubs - house > 0, (seats + tubs - house).denominator > 1, house > 0))
        self.assertLessEqual({(True, True, True), (True, False, True), (False, False, True)}, some)

    def test_by_the_webs(self):
        met = [0, 0]
        for setup, rule in DEAF:
            expected = (
                mean_most(seats_web(setup, rule[0], "cost")), mean_most(tubs_web(setup, rule[1], "cost")),
                long_mean(setup, rule, "cost"),
            )
            self.assertEqual(halves(setup, rule), expected)
            seats, tubs, house = [Fraction(*mean) for mean in expected]
            self.assertGreaterEqual(seats + tubs, house)
            self.assertEqual(short_of(setup, rule), pair(seats + tubs - house))
            ring = meeting(setup, rule)
            met[ring is None] += 1
            self.assertEqual(ring is None, seats + tubs > house)
            if ring is not None:
                self.check_meeting(setup, rule, seats, tubs, ring)
        self.assertGreater(min(met), 20)

    def check_meeting(self, setup, rule, seats, tubs, ring):
        ahead, again = ring
        self.assertLessEqual(max(len(ahead), len(again)), 120)
        first, _ = run(setup, rule[0], ahead, rule[1])
        last, bills = run(setup, rule[0], ahead + again, rule[1])
        self.assertEqual(first.standing(), last.standing())
        bills = bills[len(ahead):]
        # the one ring has the greatest means of both halves
        empty, melted, unserved, away = [
            sum(plain_count(setup, what, bill) for bill in bills) * cost
            for what, cost in zip(["empty", "melted", "unserved", "away"], setup[6])
        ]
        self.assertEqual(Fraction(empty + away, len(again)), seats)
        self.assertEqual(Fraction(melted + unserved, len(again)), tubs)

    def test_errors(self):
        for asked in [halves, short_of, meeting]:
            for thing in NO_SETUPS:
                with self.subTest(thing=str(thing)), self.assertRaises(BadSetup):
                    asked(thing, None)
            for thing in NO_RULES:
                with self.subTest(thing=str(thing)), self.assertRaises(BadRule):
                    asked(SETUP, thing)
            for rule in [(HEARING, SAVING), (EAGER, HEARING_TUBS), (HEARING, HEARING_TUBS), MEET_121[1]]:
                with self.assertRaises(NotDeaf):
                    asked(MANY, rule)
            for case in [MEET_600, MEET_601]:
                with self.assertRaises(TooMany):
                    asked(*case)


class Safe(unittest.TestCase):
    def test_by_hand(self):
        self.assertEqual(safe(SETUP, RULE), [((1,), 0), ((2,), 0)])
        self.assertEqual(safe(SETUP, (EAGER, ())), [((1,), 0)])
        self.assertIsNone(safe(setup=SETUP, rule=(EAGER, READY)))
        self.assertIsNone(safe(SETUP, ((), ())))

    def test_all_standings(self):
        unsafe = []
        for setup, rule in [*ALL, UNSAFE_7]:
            if len(met_house(setup, rule, 120)) <= 120:
                expected = first_row(
                    comers_of(setup), START, lambda place, comers: house_beat(setup, rule, place, comers),
                    lambda bill: bill[5] > 0,
                )
                self.assertEqual(safe(setup, rule), expected)
                unsafe.append(0 if expected is None else len(expected))
        self.assertLessEqual({0, 1, 2, 7}, set(unsafe))

    def test_all_short_rows(self):
        for setup, rule in SMALL:
            rows = [row for row in short_rows(setup) if any(bill[5] for bill in run(setup, rule[0], row, rule[1])[1])]
            if rows:
                self.assertEqual(safe(setup, rule), rows[0])
            else:
                self.assertTrue(safe(setup, rule) is None or len(safe(setup, rule)) > 4)

    def test_the_least_number_of_portions(self):
        self.assertEqual(least_open(SETUP, EAGER), 2)
        self.assertEqual(least_open(setup=SETUP, seats=()), 1)
        self.assertIsNone(least_open(changed_at(SETUP, (0,), 4)[:1] + ((4,),) + SETUP[2:4] + ((1,),) + SETUP[5:], EAGER))
        found = []
        for setup, seats in zip(some_setups(411, 60), some_seats(412, 30) + turning_seats(413, 30)):
            least = None
            for number in [4, 3, 2, 1]:
                rule = (seats, open_for(setup, "small", number))
                places = met_house(setup, rule, 120)
                if len(places) > 120:
                    least = "many"
                elif not any(house_beat(setup, rule, place, comers)[1][5] for place in places for comers in comers_of(setup)):
                    least = number
            found.append(least)
            if least == "many":
                with self.assertRaises(TooMany):
                    least_open(setup, seats)
            else:
                self.assertEqual(least_open(setup, seats), least)
        self.assertLessEqual({None, 1, 2, 3, 4}, set(found))

    def test_too_many_up_to_the_answer(self):
        setup, seats = OPEN_MANY
        counts = [len(met_house(setup, (seats, open_for(setup, "small", number)), 121)) for number in [1, 2, 3, 4]]
        self.assertLessEqual(counts[0], 120)
        self.assertGreater(max(counts), 120)
        with self.assertRaises(TooMany):
            least_open(setup, seats)

    def test_errors(self):
        for thing in NO_SETUPS:
            with self.subTest(thing=str(thing)), self.assertRaises(BadSetup):
                safe(thing, None)
            for asked in [least_open, first_unasked]:
                with self.assertRaises(BadSetup):
                    asked(thing, None)
        for thing in NO_RULES:
            with self.subTest(thing=str(thing)), self.assertRaises(BadRule):
                safe(SETUP, thing)
        for asked in [least_open, first_unasked]:
            for thing in NO_SEATS:
                with self.subTest(thing=str(thing)), self.assertRaises(BadSeats):
                    asked(SETUP, thing)
            with self.assertRaises(NotDeaf):
                asked(SETUP, HEARING)
        safe(*MEET_120)
        for case in [MEET_121, MEET_601]:
            with self.assertRaises(TooMany):
                safe(*case)


class Unasked(unittest.TestCase):
    def test_by_hand(self):
        self.assertIsNone(first_unasked(setup=SETUP, seats=EAGER))
        self.assertEqual(first_unasked(SETUP, ()), [1])
        self.assertEqual(first_unasked(changed_at(SETUP, (3,), (0, 0)), EAGER), [1])
        # groups of two alone: nobody, or two
        self.assertEqual(first_unasked(changed_at(SETUP, (1,), (2,)), EAGER), [1])

    def test_all_sets_of_standings(self):
        lengths = set()
        cases = [UNASKED_4, UNASKED_7, UNASKED_600]
        cases += zip(some_setups(421, 150), turning_seats(422, 75) + some_seats(423, 75))
        for setup, seats in cases:
            told = seats_told(setup, seats)
            sets = sets_met(told, frozenset([((), 0, 0)]))
            self.assertLessEqual(len(sets), 600)
            short = [
                words + [asked] for members, words in sets.items() for asked in range(setup[0] + 1)
                if asked not in [word for member in members for word, _ in told(member)]
            ]
            expected = min(short, key=lambda words: (len(words), words)) if short else None
            self.assertEqual(first_unasked(setup, seats), expected)
            lengths.add(len(expected or []))
        self.assertLessEqual({0, 1, 2, 4, 7}, lengths)

    def test_too_many_sets(self):
        for (setup, seats), count in [(UNASKED_600, 600), (UNASKED_601, 601)]:
            self.assertEqual(len(sets_met(seats_told(setup, seats), frozenset([((), 0, 0)]))), count)
        first_unasked(*UNASKED_600)
        with self.assertRaises(TooMany):
            first_unasked(*UNASKED_601)

    def test_all_short_rows(self):
        for setup, rule in SMALL:
            rows = short_rows(setup)
            come = {tuple(sat(bill) for bill in run(setup, rule[0], row)[1]) for row in rows}
            found = first_unasked(setup, rule[0])
            if found is not None and len(found) <= len(rows[-1]):
                self.assertNotIn(tuple(found), come)
                self.assertIn(tuple(found[:-1]), come)


class Reset(unittest.TestCase):
    def test_by_hand(self):
        self.assertEqual(reset_row(SETUP, RULE), [((), 0)])
        self.assertEqual(reset_row(setup=SETUP, rule=(EAGER, ())), [])
        # the mood goes on by two at each beat, so that two moods stay apart
        turn = ((0, (0, 9), (0, 9), (0, 9), (0, 9), "go", 1), (1, (0, 9), (0, 9), (0, 9), (0, 9), "go", 0))
        self.assertIsNone(reset_row(SETUP, (turn, ())))

    def test_all_sets_of_standings(self):
        lengths = []
        for setup, rule in [*ALL, *SMALL]:
            places = met_house(setup, rule, 120)
            if len(places) > 120:
                with self.assertRaises(TooMany):
                    reset_row(setup, rule)
                continue
            memo = {
                place: [(comers, house_beat(setup, rule, place, comers)[0]) for comers in comers_of(setup)]
                for place in places
            }
            sets = sets_met(memo.get, frozenset(places), 600)
            if len(sets) > 600:
                lengths.append("many")
                with self.assertRaises(TooMany):
                    reset_row(setup, rule)
                continue
            rows = [row for members, row in sets.items() if len(members) == 1]
            expected = min(rows, key=lambda row: (len(row), row)) if rows else None
            self.assertEqual(reset_row(setup, rule), expected)
            lengths.append(None if expected is None else len(expected))
        self.assertLessEqual({None, 0, 1, 2, 3}, set(lengths))

    def test_too_many_sets(self):
        for case, count in [(RESETS_600, 600), (RESETS_601, 601)]:
            places = met_house(*case)
            self.assertLessEqual(len(places), 120)
            steps = {
                place: [(comers, house_beat(*case, place, comers)[0]) for comers in comers_of(case[0])]
                for place in places
            }
            self.assertEqual(len(sets_met(steps.get, frozenset(places))), count)
        reset_row(*RESETS_600)
        with self.assertRaises(TooMany):
            reset_row(*RESETS_601)

    def test_all_short_rows(self):
        for setup, rule in SMALL:
            places = met_house(setup, rule)
            for row in short_rows(setup):
                ends = set()
                for place in places:
                    for comers in row:
                        place, _ = house_beat(setup, rule, place, comers)
                    ends.add(place)
                if len(ends) == 1:
                    self.assertEqual(reset_row(setup, rule), row)
                    break
            else:
                self.assertTrue(reset_row(setup, rule) is None or len(reset_row(setup, rule)) > 4)

    def test_errors(self):
        for thing in NO_SETUPS:
            with self.assertRaises(BadSetup):
                reset_row(thing, None)
        for thing in NO_RULES:
            with self.subTest(thing=str(thing)), self.assertRaises(BadRule):
                reset_row(SETUP, thing)
        for case in [MEET_121, MEET_600, MEET_601, MEET_MORE]:
            with self.assertRaises(TooMany):
                reset_row(*case)


if __name__ == "__main__":
    unittest.main()
