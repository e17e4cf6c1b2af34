import itertools
import unittest

from parlourday.errors import BadBill, BadRow, BadRule, BadSetup, BadWhat, TooMany
from parlourday.house import (
    bills_met, bills_of, count_of, house_after, house_met, house_web, idle_rows, is_rule, totals_of, without_idle,
)
from parlourday.seats import seats_of, seats_after
from parlourday.tubs import open_for, tubs_after, tubs_of
from parlourday.webs import is_web

from tests.plain_house import (
    BOTH_HEAR, MANY, MEET_120, MEET_121, MEET_600, MEET_601, MEET_MORE, NO_RULES, NO_WORDS, RULE, START, WORDS,
    met_house, plain_count, plain_house_web, some_houses, used_house,
)
from tests.plain_parlour import (
    ANY, EAGER, GREAT, NO_ROWS, NO_SETUPS, NO_THINGS, SETUP, changed_at, comers_of, house_beat, rows_up_to, run, sat,
    small_setups, some_rows, some_seats, some_setups, some_tubs, turning_seats, turning_tubs,
)
from tests.plain_tubs import READY, SAVING

CASES = some_houses(161, 160) + [(GREAT, (EAGER, READY)), (SETUP, RULE), (SETUP, BOTH_HEAR), (GREAT, BOTH_HEAR)]
FEW = [case for case in CASES if len(met_house(*case, 150)) <= 150]
BILL = ((("group", 1), ("single", 1)), 2, 3, (3,), 1, 1, 0)


class Rules(unittest.TestCase):
    def test_right_ones(self):
        for rule in [((), ()), RULE, BOTH_HEAR, (EAGER, ()), ((), SAVING), *[rule for _, rule in CASES]]:
            self.assertIs(is_rule(rule), True)
        self.assertIs(is_rule(thing=RULE), True)

    def test_other_objects(self):
        for thing in NO_RULES:
            with self.subTest(thing=str(thing)):
                self.assertIs(is_rule(thing), False)


class Rows(unittest.TestCase):
    def test_the_example(self):
        one, nobody = ((1,), 0), ((), 0)
        sits, rests = (("group", 1),), ()
        self.assertEqual(RULE[1], open_for(SETUP, "small", 1))
        self.assertEqual(bills_of(SETUP, RULE, [one, one]), [(sits, 0, 0, (2,), 1, 0, 0), (sits, 0, 0, (), 1, 0, 0)])
        self.assertEqual(bills_of(SETUP, RULE, [one, nobody]), [(sits, 0, 0, (2,), 1, 0, 0), (rests, 0, 0, (), 0, 0, 1)])
        self.assertEqual(house_after(SETUP, RULE, [one]), ((), 0, ((1, 1),), (0, 0)))
        self.assertEqual(house_after(setup=SETUP, rule=RULE, row=[one, nobody]), START)
        self.assertEqual(totals_of(setup=SETUP, rule=RULE, row=[one, nobody] * 3), (0, 0, 0, 3, 3, 3, 3))
        self.assertEqual(bills_of(setup=SETUP, rule=RULE, row=[]), [])
        self.assertEqual(house_after(SETUP, RULE, []), START)
        self.assertEqual(totals_of(SETUP, RULE, []), (0,) * 7)

    def test_halves_that_hear(self):
        # the group waits at the first beat, so a tub is opened; it sits at the second one
        row = [((2,), 0), ((), 0), ((), 0)]
        self.assertEqual(bills_of(SETUP, BOTH_HEAR, row), [
            ((), 2, 0, (2, ), 0, 0, 0), ((("group", 2),), 0, 0, (), 2, 0, 0), ((), 0, 0, (), 0, 0, 0),
        ])
        # a group that waits counts as one; the bench looks at the portions open at the beat's beginning
        two = ((0, ANY, ANY, ANY, (2, 2), "small", 0),)
        self.assertEqual([bill[3] for bill in bills_of(SETUP, ((), two), [((2,), 0)] * 3)], [(), (2, 2), ()])
        rich = ((0, ANY, ANY, ANY, (0, 0), "group", 0),)
        told = [bill[0] for bill in bills_of(SETUP, (rich, READY), [((1,), 0)] * 3)]
        self.assertEqual(told, [(("group", 1),), (), (("group", 1),) * 2])

    def test_told_beat_by_beat(self):
        for place, (setup, rule) in enumerate(CASES):
            for row in some_rows(place, setup, 3, 25):
                house, bills = run(setup, rule[0], row, rule[1])
                self.assertEqual(bills_of(setup, rule, row), bills)
                self.assertEqual(house_after(setup, rule, row), house.standing())
                totals = tuple(sum(plain_count(setup, what, bill) for bill in bills) for what in WORDS)
                self.assertEqual(totals_of(setup, rule, row), totals)
                for what, bill in itertools.product(WORDS, bills):
                    self.assertEqual(count_of(setup, what, bill), plain_count(setup, what, bill))

    def test_rows_of_two_hundred(self):
        for setup, rule in CASES[-20:]:
            row = some_rows(7, setup, 1, 200)[0]
            self.assertEqual(bills_of(setup, rule, row), run(setup, rule[0], row, rule[1])[1])

    def test_deaf_halves_go_alone(self):
        setups = some_setups(165, 60)
        rules = zip(some_seats(166, 30) + turning_seats(167, 30), turning_tubs(168, 30) + some_tubs(169, 30))
        for place, (setup, rule) in enumerate(zip(setups, rules)):
            row = some_rows(place, setup, 1, 30)[0]
            bills = bills_of(setup, rule, row)
            asking = [sat(bill) for bill in bills]
            self.assertEqual([bill[:3] for bill in bills], seats_of(setup, rule[0], row))
            self.assertEqual([bill[3:] for bill in bills], tubs_of(setup, rule[1], asking))
            line, singles, mood = seats_after(setup, rule[0], row)
            tubs, other = tubs_after(setup, rule[1], asking)
            self.assertEqual(house_after(setup, rule, row), (line, singles, tubs, (mood, other)))

    def test_errors(self):
        for asked in [bills_of, house_after, totals_of]:
            for thing in NO_SETUPS:
                with self.subTest(thing=str(thing)), self.assertRaises(BadSetup):
                    asked(thing, None, None)
            for thing in NO_RULES:
                with self.subTest(thing=str(thing)), self.assertRaises(BadRule):
                    asked(SETUP, thing, None)
                with self.assertRaises(BadRule):
                    asked(SETUP, thing, [])
            for thing, place in NO_ROWS:
                with self.subTest(thing=str(thing)[:60]), self.assertRaises(BadRow) as caught:
                    asked(SETUP, BOTH_HEAR, thing)
                self.assertEqual(caught.exception.place, place)


class Met(unittest.TestCase):
    def test_by_hand(self):
        self.assertEqual(house_met(SETUP, RULE), [START, ((), 0, ((1, 1),), (0, 0))])
        self.assertEqual(house_met(setup=changed_at(SETUP, (3,), (0, 0)), rule=RULE), [START])

    def test_all_short_rows(self):
        setups = small_setups(170, 30)
        for setup, rule in zip(setups, zip(turning_seats(171, 30, deaf=False), turning_tubs(172, 30, deaf=False))):
            found = {run(setup, rule[0], row, rule[1])[0].standing() for row in rows_up_to(setup, 4)}
            self.assertLessEqual(found, set(house_met(setup, rule)))

    def test_all_standings(self):
        for setup, rule in CASES:
            self.assertEqual(house_met(setup, rule), met_house(setup, rule))

    def test_too_many(self):
        for case, count in [(MEET_120, 120), (MEET_121, 121), (MEET_600, 600)]:
            found = house_met(*case)
            self.assertEqual(found, met_house(*case))
            self.assertEqual(len(found), count)
        self.assertEqual(len(met_house(*MEET_601)), 601)
        for case in [MEET_601, MEET_MORE]:
            for asked in [house_met, bills_met, idle_rows, without_idle]:
                with self.assertRaises(TooMany):
                    asked(*case)
        for asked in [bills_met, idle_rows, without_idle]:
            asked(*MEET_600)


class Webs(unittest.TestCase):
    def test_by_hand(self):
        self.assertEqual(house_web(SETUP, RULE, "melted"), (((0, 0), (0, 1), (0, 0)), ((1, 0), (0, 0), (0, 0))))
        self.assertEqual(house_web(setup=SETUP, rule=RULE, what="served")[1], ((0, 0), (1, 0), (1, 0)))

    def test_each_word(self):
        self.assertGreater(len(FEW), 100)
        for (setup, rule), what in itertools.product(FEW[:60], WORDS):
            if len(met_house(setup, rule, 120)) <= 120:
                web = house_web(setup, rule, what)
                self.assertIs(is_web(web), True)
                self.assertEqual(web, plain_house_web(setup, rule, what))

    def test_too_many(self):
        self.assertEqual(len(house_web(*MEET_120, "cost")), 120)
        self.assertIs(is_web(house_web(*MEET_120, "cost")), True)
        for case in [MEET_121, MEET_600, MEET_601]:
            with self.assertRaises(TooMany):
                house_web(*case, "cost")
            with self.assertRaises(BadWhat):
                house_web(*case, "costs")

    def test_errors(self):
        for asked in [house_met, bills_met, idle_rows, without_idle]:
            for thing in NO_SETUPS:
                with self.assertRaises(BadSetup):
                    asked(thing, None)
            for thing in NO_RULES:
                with self.subTest(thing=str(thing)), self.assertRaises(BadRule):
                    asked(SETUP, thing)
        for thing in NO_SETUPS:
            with self.assertRaises(BadSetup):
                house_web(thing, None, None)
        for thing in NO_RULES:
            for what in [None, "cost"]:
                with self.assertRaises(BadRule):
                    house_web(SETUP, thing, what)
        for thing in NO_WORDS:
            with self.subTest(thing=str(thing)), self.assertRaises(BadWhat):
                house_web(SETUP, RULE, thing)


class Bills(unittest.TestCase):
    def test_by_hand(self):
        setup = changed_at(GREAT, (6,), (2, 3, 4, 5))
        for what, count in zip(WORDS, [2, 3, 1, 0, 1, 2, 2 * 2 + 0 * 3 + 1 * 4 + 3 * 5]):
            self.assertEqual(count_of(setup, what, BILL), count)
        bill = ((("group", 2),), 0, 0, (1, 3), 2, 0, 4)
        for what, count in zip(WORDS, [0, 0, 0, 4, 2, 2, 12]):
            self.assertEqual(count_of(setup=setup, what=what, bill=bill), count)

    def test_each_bound(self):
        rights = [
            ((0,), ((("single", 1), ("group", 1)))), ((1,), 0), ((2,), 0), ((2,), 4), ((3,), ()), ((3,), (1, 3)),
            ((3,), (3, 3)), ((3,), (1,)),
        ]
        for path, part in rights:
            with self.subTest(path=path, part=part):
                self.assertEqual(count_of(GREAT, "seated", changed_at(BILL, path, part)), 2)
        rights = [
            ((), 0, 0, (), 0, 0, 0), ((), 4, 4, (1, 1), 0, 0, 6), ((("single", 1),) * 4, 0, 0, (), 4, 0, 6),
            ((("group", 2), ("group", 2)), 0, 0, (), 0, 4, 0), ((("group", 1), ("group", 2)), 1, 0, (), 2, 1, 0),
            ((("group", 1), ("group", 2)), 1, 0, (), 3, 0, 1),
        ]
        for bill in rights:
            with self.subTest(bill=bill):
                self.assertEqual(count_of(GREAT, "served", bill), bill[4])
        wrongs = [
            ((), 3, 0, (), 0, 0, 0), ((), 5, 0, (), 0, 0, 0), ((), 4, 5, (), 0, 0, 0), ((), 4, 0, (), 0, 0, 7),
            ((("single", 1),) * 5, 0, 0, (), 5, 0, 0), ((("single", 1),) * 5, -1, 0, (), 5, 0, 0),
            ((("group", 2), ("group", 2), ("single", 1)), 0, 0, (), 4, 1, 0),
            ((("group", 1),), 3, 0, (), 0, 1, 1), ((("group", 1),), 3, 0, (), 1, 1, 0), ((("group", 1),), 3, 0, (), 0, 0, 0),
            ((("group", 1),), 3, 0, (), 2, -1, 0), ((("group", 1),), 3, 0, (), -1, 2, 0), ((), 4, 0, (2,), 0, 0, 0),
            ((("group", 3),), 1, 0, (), 3, 0, 0), ((("group", 0),), 4, 0, (), 0, 0, 0), ((("single", 2),), 2, 0, (), 2, 0, 0),
            ((("single", 0),), 4, 0, (), 0, 0, 0), ((), 0, 0, (1, 1, 1), 0, 0, 0),
        ]
        for bill in wrongs:
            with self.subTest(bill=bill), self.assertRaises(BadBill):
                count_of(GREAT, "cost", bill)

    def test_bounds_of_other_setups(self):
        none = ((), 0, 0, (), 0, 0, 0)
        setup = (2, (2,), (1, 0), (0, 1), (2,), 1, (1, 1, 1, 1))
        for path, right, wrong in [((2,), 1, 2), ((6,), 4, 5), ((3,), (2, 2), (1,)), ((1,), 2, 1)]:
            count_of(setup, "cost", changed_at(none, path, right))
            with self.assertRaises(BadBill):
                count_of(setup, "cost", changed_at(none, path, wrong))
        self.assertEqual(count_of(changed_at(setup, (3,), (1, 0)), "away", changed_at(none, (2,), 2)), 2)
        with self.assertRaises(BadBill):
            count_of(setup, "cost", ((("group", 1),), 1, 0, (), 1, 0, 0))

    def test_other_objects(self):
        things = NO_THINGS + [list(BILL), BILL[:6], BILL + (0,), dict.fromkeys(BILL)]
        for place, parts in enumerate([
            [None, True, 0, [], [("group", 1)], "g", (None,), (0,), ("group", 1), (["group", 1],), (("group",),),
             (("group", 1, 1),), (("Group", 1), ("single", 1)), (("group", True), ("single", 1)),
             (("group", 1), ("single", True)), ((None, 1), ("single", 1)), (("group", None),), ((b"group", 1), ("single", 1)),
             (("go", 1), ("single", 1))],
            [None, True, False, "2", 1, 3, -2, (2,)],
            [None, True, False, "0", -1, 5, (0,)],
            [None, True, 0, [], [1], "1", (None,), (True,), (0,), (2,), (4,), (1, 1, 1), ("1",), ((1,),)],
            [None, True, False, "1", 0, 2, -1],
            [None, True, False, "1", 0, 2, -1],
            [None, True, False, "0", 1, -1, 7],
        ]):
            things += [changed_at(BILL, (place,), part) for part in parts]
        for thing in things:
            for what in ["cost", "seated", "empty"]:
                with self.subTest(thing=str(thing)), self.assertRaises(BadBill):
                    count_of(GREAT, what, thing)
        self.assertEqual(count_of(GREAT, "served", BILL), 1)

    def test_errors(self):
        for thing in NO_SETUPS:
            with self.assertRaises(BadSetup):
                count_of(thing, None, None)
        for thing in NO_WORDS:
            for bill in [BILL, None]:
                with self.subTest(thing=str(thing)), self.assertRaises(BadWhat):
                    count_of(GREAT, thing, bill)

    def test_all_bills_met(self):
        waiting = [((), 2, away, (), 0, 0, 0) for away in [0, 1, 2]]
        self.assertEqual(bills_met(SETUP, ((), ())), [((), 0, 0, (), 0, 0, 0), *waiting])
        for setup, rule in FEW:
            expected = {
                house_beat(setup, rule, place, comers)[1]
                for place in met_house(setup, rule) for comers in comers_of(setup)
            }
            found = bills_met(setup=setup, rule=rule)
            self.assertEqual(found, sorted(expected))
            for bill in found:
                self.assertEqual(count_of(setup, "cost", bill), plain_count(setup, "cost", bill))


class Idle(unittest.TestCase):
    def test_by_hand(self):
        self.assertEqual(idle_rows(SETUP, RULE), ([], []))
        self.assertEqual(idle_rows(setup=SETUP, rule=(EAGER, READY)), ([1], [2, 3]))
        self.assertEqual(without_idle(setup=SETUP, rule=(EAGER, READY)), (EAGER[:1], READY[:2]))
        self.assertEqual(idle_rows(SETUP, (EAGER[:1] * 3, SAVING * 2)), ([1, 2], [1]))
        self.assertEqual(without_idle(SETUP, ((), ())), ((), ()))
        go, rest = (0, ANY, ANY, ANY, ANY, "go", 0), (0, ANY, ANY, ANY, ANY, "rest", 0)
        self.assertEqual(idle_rows(SETUP, ((go, go), (rest, rest))), ([1], [1]))

    def test_all_rows_of_comers(self):
        some = 0
        for setup, rule in FEW:
            used = used_house(setup, rule)
            idle = tuple([place for place in range(len(half)) if place not in rows] for half, rows in zip(rule, used))
            some += bool(idle[0]) and bool(idle[1])
            self.assertEqual(idle_rows(setup, rule), idle)
            lean = without_idle(setup, rule)
            self.assertEqual(lean, tuple(tuple(half[place] for place in rows) for half, rows in zip(rule, used)))
            self.assertEqual(met_house(setup, lean), met_house(setup, rule))
        self.assertGreater(some, 20)


class Many(unittest.TestCase):
    def test_they_are_setups_and_rules(self):
        self.assertEqual(len(comers_of(MANY)), 9)
        for _, rule in [MEET_120, MEET_121, MEET_600, MEET_601, MEET_MORE]:
            self.assertIs(is_rule(rule), True)


if __name__ == "__main__":
    unittest.main()
