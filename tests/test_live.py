import copy
import itertools
import unittest

from parlourday.errors import (
    BadComers, BadCount, BadPlace, BadRow, BadRule, BadRules, BadSeats, BadSetup, BadTubs, BadWhat, Full,
    NothingToUndo,
)
from parlourday.live import Parlour

from tests.plain_evening import EMPTY, Evening, best_ahead, cost_of, some_deeds
from tests.plain_house import BOTH_HEAR, MEET_MORE, NO_RULES, NO_WORDS, RULE, START, WORDS, some_houses
from tests.plain_parlour import (
    EAGER, GREAT, NO_ROWS, NO_SEATS, NO_SETUPS, NO_THINGS, SETUP, UNFAIR, changed_at, comers_of, rows_of, some_rows,
)
from tests.plain_search import NO_COUNTS
from tests.plain_tubs import HEARING_TUBS, NO_TUBS, READY, SAVING

CASES = some_houses(491, 40) + [(SETUP, RULE), (GREAT, (EAGER, READY)), (SETUP, BOTH_HEAR), MEET_MORE]
NO_COMERS = [
    (None, 0), ([], 0), (1, 0), ("", 0), (((),), 0), ((3,), 0), ((0,), 0), ((1, 1), 0), ((True,), 0), ((None,), 0),
    (("1",), 0), ((), 1), ((), -1), ((), None), ((), True), ((), False), ((), "0"), ((), (0,)), ([1], 0), ({}, 0),
    ((1,), 1), (((1,),), 0), ((), []), (True, 0), ((), {}),
]
NO_KNOWN = [(thing, place) for thing, place in NO_ROWS if place < 20] + [
    ([((), 0)] * 21, 20), ([((), 0)] * 20 + [None], 20), ([((), 0)] * 19 + [None], 19),
]


def do(parlour, what, thing):
    if what == "beat":
        return parlour.beat(*thing)
    if what == "close":
        return parlour.close()
    return {"seats": parlour.change_seats, "tubs": parlour.change_tubs}[what](thing)


def state(parlour):
    """All that a parlour tells of itself."""
    return (
        parlour.row(), parlour.bills(), parlour.closings(), parlour.standing(), parlour.rule(), parlour.totals(),
        len(parlour), list(parlour), parlour.waiting, parlour.portions, parlour.boards(),
    )


def plain_state(evening):
    house = evening.house
    return (
        evening.comers, evening.told, evening.ends, house.standing(), evening.rule(), evening.totals(),
        len(evening.told), evening.told, (len(house.groups), len(house.singles)), house.portions(), evening.seen,
    )


def led(seed, setup, rule, count):
    """A parlour and a plain evening with the same deeds."""
    parlour, evening = Parlour(setup, rule), Evening(setup, rule)
    for deed in some_deeds(seed, setup, count):
        if deed is None:
            parlour.undo()
            evening.undo()
        else:
            do(parlour, *deed)
            evening.do(*deed)
    return parlour, evening


class Deeds(unittest.TestCase):
    def test_at_first(self):
        for parlour in [Parlour(SETUP), Parlour(setup=SETUP), Parlour(SETUP, EMPTY)]:
            self.assertEqual(state(parlour), ([], [], [], START, EMPTY, (0,) * 7, 0, [], (0, 0), 0, []))
        self.assertEqual(Parlour(setup=SETUP, rule=RULE).rule(), RULE)

    def test_the_example(self):
        parlour = Parlour(SETUP, RULE)
        self.assertEqual(parlour.beat((1,), 0), ((("group", 1),), 0, 0, (2,), 1, 0, 0))
        self.assertEqual((parlour.waiting, parlour.portions), ((0, 0), 1))
        self.assertEqual(parlour.beat(groups=(), singles=0), ((), 0, 0, (), 0, 0, 1))
        self.assertEqual(parlour.totals(), (0, 0, 0, 1, 1, 1, 1))
        self.assertIsNone(parlour.change_seats(rule=()))
        parlour.beat((2,), 0)
        self.assertEqual((parlour.waiting, parlour.standing()), ((1, 0), ((2,), 0, (), (0, 0))))
        self.assertEqual(parlour.close(), (2, 0))
        self.assertEqual(parlour.closings(), [(3, 2, 0)])
        self.assertEqual(parlour.totals(), (2, 2, 0, 1, 1, 1, 5))
        self.assertIsNone(parlour.undo())
        self.assertEqual(parlour.closings(), [])
        self.assertIsNone(parlour.undo())
        self.assertIsNone(parlour.undo())
        self.assertEqual((parlour.rule(), len(parlour)), (RULE, 2))
        self.assertIsNone(parlour.change_tubs(rule=()))
        self.assertEqual(parlour.rule(), (RULE[0], ()))
        self.assertEqual(parlour.beat((2,), 0), ((("group", 2),), 0, 0, (), 0, 2, 0))

    def test_each_deed_beside_a_plain_house(self):
        for seed, (setup, rule) in enumerate(CASES):
            parlour, evening = Parlour(setup, rule), Evening(setup, rule)
            for deed in some_deeds(seed, setup, 60):
                if deed is None:
                    self.assertIsNone(parlour.undo())
                    evening.undo()
                else:
                    self.assertEqual(do(parlour, *deed), evening.do(*deed))
                self.assertEqual(state(parlour), plain_state(evening))
            while evening.deeds:
                parlour.undo()
                evening.undo()
                self.assertEqual(state(parlour), plain_state(evening))
            with self.assertRaises(NothingToUndo):
                parlour.undo()

    def test_moods_stay_but_for_the_end_of_a_day(self):
        turn = ((0, (0, 9), (0, 9), (0, 9), (0, 9), "go", 2),)
        parlour = Parlour(SETUP, (turn, ()))
        parlour.beat((1,), 0)
        parlour.change_seats(EAGER)
        self.assertEqual(parlour.standing(), ((1,), 0, (), (2, 0)))
        parlour.beat((1,), 0)
        self.assertEqual(parlour.waiting, (2, 0))
        self.assertEqual(parlour.close(), (2, 0))
        self.assertEqual(parlour.standing(), START)
        parlour.beat((1,), 0)
        self.assertEqual(parlour.waiting, (0, 0))

    def test_a_hundred_deeds(self):
        calls = [lambda parlour: parlour.beat((), 0), lambda parlour: parlour.close(),
                 lambda parlour: parlour.change_seats(()), lambda parlour: parlour.change_tubs(())]
        parlour = Parlour(SETUP)
        for place in range(100):
            calls[place % 4](parlour)
        before = state(parlour)
        for call in calls:
            with self.assertRaises(Full):
                call(parlour)
        # the other errors come ahead
        with self.assertRaises(BadComers):
            parlour.beat((3,), 0)
        with self.assertRaises(BadSeats):
            parlour.change_seats(None)
        with self.assertRaises(BadTubs):
            parlour.change_tubs(None)
        self.assertEqual(state(parlour), before)
        parlour.undo()
        parlour.beat((1,), 0)
        with self.assertRaises(Full):
            parlour.close()
        self.assertEqual(len(parlour), 26)
        for _ in range(100):
            parlour.undo()
        with self.assertRaises(NothingToUndo):
            parlour.undo()
        self.assertEqual(parlour, Parlour(SETUP))

    def test_errors_change_nothing(self):
        parlour, _ = led(5, SETUP, RULE, 30)
        before, twin = state(parlour), parlour.copy()
        for groups, singles in NO_COMERS:
            with self.subTest(groups=str(groups), singles=str(singles)), self.assertRaises(BadComers):
                parlour.beat(groups, singles)
        for thing in NO_SEATS:
            with self.subTest(thing=str(thing)), self.assertRaises(BadSeats):
                parlour.change_seats(thing)
        for thing in NO_TUBS:
            with self.subTest(thing=str(thing)), self.assertRaises(BadTubs):
                parlour.change_tubs(thing)
        self.assertEqual(state(parlour), before)
        self.assertEqual(parlour, twin)

    def test_errors_at_first(self):
        for thing in NO_SETUPS:
            with self.subTest(thing=str(thing)), self.assertRaises(BadSetup):
                Parlour(thing, None)
        for thing in NO_RULES:
            with self.subTest(thing=str(thing)), self.assertRaises(BadRule):
                Parlour(SETUP, thing)


class Beats(unittest.TestCase):
    def test_places(self):
        parlour, evening = led(7, SETUP, RULE, 40)
        self.assertGreater(len(parlour), 5)
        for place, bill in enumerate(evening.told):
            self.assertEqual(parlour[place], bill)
        for thing in [-1, len(parlour), 10 ** 40, None, True, False, "0", (0,), [0], slice(0, 1), {}, b""]:
            with self.subTest(thing=str(thing)), self.assertRaises(BadPlace):
                parlour[thing]
        with self.assertRaises(BadPlace):
            Parlour(SETUP)[0]

    def test_iterating(self):
        parlour, evening = led(8, GREAT, (EAGER, READY), 40)
        self.assertEqual(list(parlour), evening.told)
        self.assertEqual([bill for bill in parlour], parlour.bills())
        self.assertIn(parlour[0], parlour)
        for left, right in itertools.zip_longest(parlour, parlour):
            self.assertEqual(left, right)

    def test_lists_are_new(self):
        parlour, evening = led(9, SETUP, BOTH_HEAR, 50)
        for _ in range(2):
            for found in [parlour.row(), parlour.bills(), parlour.closings(), parlour.boards()]:
                found.append(None)
                found[:] = [None] * 3
        parlour.ahead_row("cost", 2).clear()
        self.assertEqual(state(parlour), plain_state(evening))


class Equal(unittest.TestCase):
    def test_by_setup_rule_and_deeds(self):
        parlour, other = Parlour(SETUP, RULE), Parlour(SETUP, RULE)
        self.assertTrue(parlour == other and not parlour != other)
        parlour.beat((1,), 0)
        self.assertTrue(parlour != other and not parlour == other)
        other.beat((1,), 0)
        self.assertEqual(parlour, other)
        # deeds that are taken back do not count
        other.close()
        other.change_seats(())
        self.assertNotEqual(parlour, other)
        other.undo()
        other.undo()
        self.assertEqual(parlour, other)
        # a deed counts, also if nothing differs behind it
        other.change_seats(RULE[0])
        self.assertEqual(other.rule(), parlour.rule())
        self.assertNotEqual(parlour, other)
        parlour.change_tubs(RULE[1])
        self.assertNotEqual(parlour, other)

    def test_the_order_counts(self):
        parlour, other = Parlour(SETUP), Parlour(SETUP)
        parlour.change_seats(EAGER)
        parlour.change_tubs(READY)
        other.change_tubs(READY)
        other.change_seats(EAGER)
        self.assertNotEqual(parlour, other)
        self.assertEqual(parlour.rule(), other.rule())

    def test_rules_at_first(self):
        parlour, other = Parlour(SETUP, RULE), Parlour(SETUP)
        self.assertNotEqual(parlour, other)
        other.change_seats(RULE[0])
        other.change_tubs(RULE[1])
        self.assertNotEqual(parlour, other)
        self.assertNotEqual(Parlour(SETUP), Parlour(changed_at(SETUP, (6,), (0, 0, 0, 0))))
        self.assertEqual(Parlour(SETUP, EMPTY), Parlour(SETUP))

    def test_nothing_else(self):
        parlour = Parlour(SETUP, RULE)
        for thing in [*NO_THINGS, (SETUP, RULE), SETUP, RULE, START]:
            self.assertFalse(parlour == thing)
            self.assertTrue(parlour != thing)
            self.assertFalse(thing == parlour)

    def test_copies_go_their_own_way(self):
        for seed, (setup, rule) in enumerate(CASES):
            parlour, evening = led(seed, setup, rule, 30)
            twin = parlour.copy()
            self.assertEqual(twin, parlour)
            self.assertEqual(state(twin), state(parlour))
            comers = comers_of(setup)[-1]
            twin.beat(*comers)
            self.assertNotEqual(twin, parlour)
            self.assertEqual(state(parlour), plain_state(evening))
            again = parlour.copy()
            parlour.beat(*comers)
            parlour.close()
            self.assertEqual(state(again), plain_state(evening))
            while evening.deeds:
                again.undo()
                evening.undo()
                self.assertEqual(state(again), plain_state(evening))


class Asking(unittest.TestCase):
    def test_totals_by_another_rule(self):
        for seed, (setup, rule) in enumerate(CASES):
            parlour, evening = led(seed, setup, rule, 40)
            before = state(parlour)
            for other in [EMPTY, rule, (EAGER, SAVING), BOTH_HEAR]:
                plain = Evening(setup, other)
                for what, thing in evening.deeds:
                    if what in ("beat", "close"):
                        plain.do(what, thing)
                self.assertEqual(parlour.totals_by(other), plain.totals())
            self.assertEqual(state(parlour), before)
        self.assertEqual(parlour.totals_by(rule=EMPTY), parlour.totals_by(EMPTY))
        for thing in NO_RULES:
            with self.subTest(thing=str(thing)), self.assertRaises(BadRule):
                parlour.totals_by(thing)

    def test_ahead(self):
        for seed, (setup, rule) in enumerate(CASES):
            parlour, evening = led(seed, setup, rule, 25)
            before = state(parlour)
            count = len(comers_of(setup))
            for what in [WORDS[seed % 7], WORDS[(seed + 3) % 7], "cost"]:
                for beats in [0, 1, 2] + [3] * (count <= 4) + [4] * (count <= 3):
                    most, row = best_ahead(setup, evening, what, beats)
                    self.assertEqual(parlour.ahead(what, beats), most)
                    self.assertEqual(parlour.ahead_row(what, beats), row)
            self.assertEqual(state(parlour), before)

    def test_six_beats_ahead(self):
        for seed, (setup, rule) in enumerate(CASES):
            parlour, _ = led(seed, setup, rule, 25)
            most, row = parlour.ahead(what="cost", beats=6), parlour.ahead_row(what="cost", beats=6)
            twin = parlour.copy()
            for comers in row:
                twin.beat(*comers)
            self.assertEqual(twin.totals()[6] - parlour.totals()[6], most)
            for other in some_rows(seed, setup, 20, 6):
                twin = parlour.copy()
                for comers in other:
                    twin.beat(*comers)
                self.assertLessEqual(twin.totals()[6] - parlour.totals()[6], most)

    def test_errors_ahead(self):
        parlour = Parlour(SETUP, RULE)
        for asked in [parlour.ahead, parlour.ahead_row]:
            for thing in NO_WORDS:
                with self.subTest(thing=str(thing)), self.assertRaises(BadWhat):
                    asked(thing, None)
            for thing in [*NO_COUNTS, 7]:
                with self.subTest(thing=str(thing)), self.assertRaises(BadCount):
                    asked("cost", thing)

    def test_rules_tried(self):
        rules = [EMPTY, RULE, (EAGER, READY), BOTH_HEAR, (UNFAIR, SAVING), (UNFAIR, HEARING_TUBS), RULE, EMPTY]
        several = 0
        for seed, (setup, rule) in enumerate(CASES):
            parlour, evening = led(seed, setup, rule, 25)
            before = state(parlour)
            tried = rules[:seed % 8] + [rule]
            for row in [[], *some_rows(seed, setup, 3, 5), *some_rows(seed + 1, setup, 1, 20)]:
                given = copy.deepcopy(tried)
                costs = [cost_of(setup, other, row, evening.house) for other in tried]
                expected = [place for place, cost in enumerate(costs) if cost == min(costs)]
                several += 1 < len(expected) < len(costs)
                self.assertEqual(parlour.try_rules(tried, row), expected)
                self.assertEqual(tried, given)
            self.assertEqual(state(parlour), before)
        self.assertGreater(several, 5)

    def test_the_moods_are_0(self):
        turn = ((0, (0, 9), (0, 9), (0, 9), (0, 9), "go", 2),)
        parlour = Parlour(SETUP, (turn, ()))
        parlour.beat((), 0)
        self.assertEqual(parlour.standing()[3], (2, 0))
        self.assertEqual(parlour.try_rules(rules=[EMPTY, (EAGER, READY)], row=[((2,), 0)]), [1])

    def test_errors_of_rules_tried(self):
        parlour = Parlour(SETUP, RULE)
        for thing in [*NO_THINGS, (RULE,), [RULE] * 9, [RULE, None], [None], [[RULE[0], RULE[1]]], RULE, "rules"]:
            for row in [None, []]:
                with self.subTest(thing=str(thing)[:60]), self.assertRaises(BadRules):
                    parlour.try_rules(thing, row)
        for thing in NO_RULES:
            with self.assertRaises(BadRules):
                parlour.try_rules([RULE, thing], [])
        self.assertEqual(parlour.try_rules([RULE] * 8, [((), 0)] * 20), list(range(8)))
        for thing, place in NO_KNOWN:
            with self.subTest(thing=str(thing)[:60]), self.assertRaises(BadRow) as caught:
                parlour.try_rules([RULE], thing)
            self.assertEqual(caught.exception.place, place)

    def test_all_rows(self):
        for what in WORDS:
            parlour = Parlour(SETUP, RULE)
            sums = {}
            for row in rows_of(SETUP, 3):
                twin = parlour.copy()
                for comers in row:
                    twin.beat(*comers)
                sums.setdefault(twin.totals()[WORDS.index(what)], row)
            self.assertEqual(parlour.ahead(what, 3), max(sums))
            self.assertEqual(parlour.ahead_row(what, 3), sums[max(sums)])


class Form(unittest.TestCase):
    def test_each_method_stands_in_the_class(self):
        names = [
            "beat", "change_seats", "change_tubs", "close", "undo", "row", "bills", "closings", "standing", "rule",
            "totals", "copy", "boards", "totals_by", "ahead", "ahead_row", "try_rules", "waiting", "portions",
            "__len__", "__getitem__", "__iter__", "__eq__", "__init__",
        ]
        for name in names:
            self.assertIn(name, vars(Parlour))
        self.assertEqual(Parlour.__module__, "parlourday.live")
        for name in ["waiting", "portions"]:
            self.assertIsInstance(vars(Parlour)[name], property)


if __name__ == "__main__":
    unittest.main()
