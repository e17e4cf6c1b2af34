import unittest
from fractions import Fraction
from random import Random

from parlourday.best import best_mean
from parlourday.days import day_cost
from parlourday.desk import Desk, rows_for
from parlourday.errors import (
    BadCommand, BadCount, BadText, BadWhat, Full, NothingToUndo, TooMany,
)
from parlourday.halves import halves, safe
from parlourday.live import Parlour
from parlourday.longrun import long_mean
from parlourday.texts import show_bill, show_house, show_row, show_seats, show_setup, show_tubs

from tests.cases import VIEWS_304
from tests.plain_evening import EMPTY, some_deeds
from tests.plain_house import BOTH_HEAR, MEET_121, MEET_601, MEET_MORE, RULE, WORDS, some_houses
from tests.plain_parlour import EAGER, GREAT, SETUP, comers_of
from tests.plain_tubs import READY
from tests.test_live import do, state

FIRST = (2, (1, 2), (1, 1), (1, 1), (2,), 2, (1, 1, 2, 1))
CASES = some_houses(521, 25) + [(SETUP, RULE), (GREAT, (EAGER, READY)), (SETUP, BOTH_HEAR), (FIRST, EMPTY)]
# Rows of the example: a group of one at a beat, nobody at the next one.
EXAMPLE = [f"house {show_house(SETUP, RULE)}", "beat 1+0", "beat -+0"]
NO_ROWS = [
    None, True, 0, b"close", [], ["close"], (), {}, "", " ", "x", "Close", "close ", " close", "close x", "close\n",
    "clos", "undo ", "undo 1", "line ", "line x", "halves ", "best ", "best x", "safe ", "totals ", "totals 1", "show ",
    "setup", "house", "seats", "beat", "mean", "day", "ahead", "beat ", "mean ", "day ", "ahead ", "beat 1+0 ", "beat  1+0",
    "beat 1+0 1+0", "mean cost ", "mean  cost", "mean cost cost", "day 10", "day 1 ", "day  1", "day x", "day -1", "day 1\n",
    "ahead 01", "ahead 1 1", "ahead one", "ahead +1", "close\tx", "setup\n", "seats\n-", "tubs\n", "tubs\n-", "Setup -",
    "line\n", "beat\n1+0", "parlour", "say", "rows", "setups -", "day", "day\n1", "show\nshow",
]


def led_desk(setup, rule, deeds):
    """A desk and a Parlour with the same deeds."""
    desk, parlour = Desk(), Parlour(setup, rule)
    desk.say(f"house {show_house(setup, rule)}")
    for deed in deeds:
        if deed is None:
            parlour.undo()
            desk.say("undo")
        else:
            do(parlour, *deed)
            desk.say(row_of(*deed))
    return desk, parlour


def row_of(what, thing):
    if what == "close":
        return "close"
    return f"{what} " + {"beat": lambda comers: show_row([comers]), "seats": show_seats, "tubs": show_tubs}[what](thing)


class Answers(unittest.TestCase):
    def test_at_first(self):
        desk = Desk()
        self.assertEqual(desk.parlour(), Parlour(FIRST))
        self.assertEqual(desk.say("line"), "nobody + 0")
        self.assertEqual(desk.say("tubs"), "none")
        self.assertEqual(desk.say("totals"), "0 0 0 0 0 0 0")
        self.assertEqual(desk.say(row="show"), show_house(FIRST, EMPTY))

    def test_by_hand(self):
        desk = Desk()
        self.assertEqual(desk.say(EXAMPLE[0]), "ok")
        self.assertEqual(desk.say("beat 1+0"), "g1 empty 0 away 0 opened 2 served 1 unserved 0 melted 0")
        self.assertEqual(desk.say("tubs"), "1:1")
        self.assertEqual(desk.say("beat -+0"), "- empty 0 away 0 opened - served 0 unserved 0 melted 1")
        self.assertEqual(desk.say("mean melted"), "1/2")
        self.assertEqual(desk.say("halves"), "0/1 1/1 1/1")
        self.assertEqual(desk.say("best"), "1/2")
        self.assertEqual(desk.say("safe"), "2")
        self.assertEqual(desk.say("day 1"), "1")
        self.assertEqual(desk.say("ahead 0"), "0")
        self.assertEqual(desk.say("totals"), "0 0 0 1 1 1 1")
        self.assertEqual(desk.say("seats -"), "ok")
        self.assertEqual(desk.say("beat 2+0"), "- empty 2 away 0 opened - served 0 unserved 0 melted 0")
        self.assertEqual(desk.say("beat 1+0"), "- empty 2 away 0 opened - served 0 unserved 0 melted 0")
        self.assertEqual(desk.say("line"), "2 1 + 0")
        self.assertEqual(desk.say("safe"), "yes")
        self.assertEqual(desk.say("close"), "3 0")
        self.assertEqual(desk.say("line"), "nobody + 0")
        self.assertEqual(desk.say("undo"), "ok")
        self.assertEqual(desk.say("line"), "2 1 + 0")
        self.assertEqual(desk.say(f"tubs {show_tubs(BOTH_HEAR[1])}"), "ok")
        self.assertEqual(desk.say("halves"), "tied")
        self.assertEqual(desk.say("beat -+0"), "- empty 2 away 0 opened 2 served 0 unserved 0 melted 0")
        self.assertEqual(desk.say("tubs"), "1:2")
        self.assertEqual(desk.say(f"setup {show_setup(GREAT)}"), "ok")
        self.assertEqual(desk.say("beat -+2"), "- empty 4 away 0 opened - served 0 unserved 0 melted 0")
        self.assertEqual(desk.say("line"), "nobody + 2")
        self.assertEqual(desk.say("show"), show_house(GREAT, EMPTY))

    def test_each_deed_beside_a_parlour(self):
        for seed, (setup, rule) in enumerate(CASES):
            desk, parlour = Desk(), Parlour(setup, rule)
            self.assertEqual(desk.say(f"house {show_house(setup, rule)}"), "ok")
            for deed in some_deeds(seed, setup, 40):
                if deed is None:
                    parlour.undo()
                    self.assertEqual(desk.say("undo"), "ok")
                else:
                    told = do(parlour, *deed)
                    expected = {"beat": show_bill, "close": lambda gone: f"{gone[0]} {gone[1]}"}
                    self.assertEqual(desk.say(row_of(*deed)), expected.get(deed[0], lambda nothing: "ok")(told))
                self.assertEqual(desk.parlour(), parlour)
                self.check_told(desk, parlour)
            self.assertEqual(state(desk.parlour()), state(parlour))

    def check_told(self, desk, parlour):
        line, singles, tubs, _ = parlour.standing()
        self.assertEqual(desk.say("line"), (" ".join(map(str, line)) or "nobody") + f" + {singles}")
        self.assertEqual(desk.say("tubs"), " ".join(f"{age}:{portions}" for age, portions in tubs) or "none")
        self.assertEqual(desk.say("totals"), " ".join(map(str, parlour.totals())))

    def test_what_the_present_rule_does(self):
        several = set()
        for seed, (setup, rule) in enumerate(CASES):
            desk, parlour = led_desk(setup, rule, some_deeds(seed, setup, 15))
            rule = parlour.rule()
            self.assertEqual(desk.say("show"), show_house(setup, rule))
            for beats in range(3):
                self.assertEqual(desk.say(f"ahead {beats}"), str(parlour.ahead("cost", beats)))
            asked = [(f"mean {what}", lambda word=what: text_of(long_mean(setup, rule, word))) for what in WORDS]
            deaf = all(row[4] == (0, 9) for half in rule for row in half)
            asked += [
                ("halves", lambda: " ".join(map(text_of, halves(setup, rule))) if deaf else "tied"),
                ("best", lambda: text_of(best_mean(setup))), ("day 2", lambda: str(day_cost(setup, rule, 2))),
                ("day 6", lambda: str(day_cost(setup, rule, 6))), ("safe", lambda: safe_text(setup, rule)),
            ]
            for row, answer in asked:
                try:
                    expected = answer()
                except TooMany:
                    with self.assertRaises(TooMany):
                        desk.say(row)
                    several.add((row, "many"))
                else:
                    self.assertEqual(desk.say(row), expected)
                    several.add((row, expected))
            self.assertEqual(desk.parlour(), parlour)
        self.assertLessEqual({("halves", "tied"), ("safe", "yes"), ("safe", "1"), ("best", "many")}, several)

    def test_copies(self):
        desk = Desk()
        parlour = desk.parlour()
        parlour.beat((1,), 1)
        self.assertEqual(desk.parlour(), Parlour(FIRST))
        desk.say("beat 2+1")
        self.assertEqual(parlour.row(), [((1,), 1)])
        self.assertEqual(desk.parlour().row(), [((2,), 1)])
        self.assertEqual(Desk().parlour().row(), [])


def text_of(fraction):
    return f"{fraction[0]}/{fraction[1]}"


def safe_text(setup, rule):
    row = safe(setup, rule)
    return "yes" if row is None else str(len(row))


class Errors(unittest.TestCase):
    def setUp(self):
        self.desk, self.parlour = led_desk(SETUP, RULE, some_deeds(3, SETUP, 20))

    def refused(self, row, error, place=None):
        with self.subTest(row=str(row)[:80]):
            with self.assertRaises(error) as caught:
                self.desk.say(row)
            self.assertIs(type(caught.exception), error)
            if place is not None:
                self.assertEqual(caught.exception.place, place)
            self.assertEqual(self.desk.parlour(), self.parlour)
            self.assertEqual(state(self.desk.parlour()), state(self.parlour))

    def test_rows_that_are_none(self):
        for row in NO_ROWS:
            self.refused(row, BadCommand)

    def test_texts(self):
        for row, place in [
            ("setup ", 0), ("setup  ", 0), ("setup x", 0), ("setup seats 2 sizes 3", 3), ("setup seats", 1),
            ("house ", 0), (f"house {show_setup(SETUP)}", 20), (f"house {show_setup(SETUP)} | - | x", 23), ("seats ", 0),
            ("seats x", 0), ("seats - ", 1), (f"seats {show_tubs(RULE[1])}", 5), ("tubs ", 0), ("tubs x", 0), ("tubs  -", 0),
            (f"tubs {show_seats(RULE[0])}", 5), ("tubs 0 0 0 0 0 rest", 6), ("seats -\n", 0), ("setup \n", 0),
            ("beat x", 0), ("beat 3+0", 0), ("beat 1+1", 0), ("beat 1", 0), ("beat none", 0), ("beat 1+0\n", 0), ("beat +", 0),
            ("beat \n", 0), ("beat -", 0),
        ]:
            self.refused(row, BadText, place)

    def test_words_and_counts(self):
        for word in ["x", "Cost", "costs", "cost\n", "1", "\n", "-", "none"]:
            self.refused(f"mean {word}", BadWhat)
        for digit in "0789":
            self.refused(f"day {digit}", BadCount)
        for digit in "789":
            self.refused(f"ahead {digit}", BadCount)

    def test_nothing_to_undo(self):
        self.desk, self.parlour = led_desk(SETUP, RULE, [])
        self.refused("undo", NothingToUndo)
        self.desk.say("close")
        self.desk.say("undo")
        self.refused("undo", NothingToUndo)

    def test_full(self):
        self.desk, self.parlour = led_desk(SETUP, RULE, [("beat", ((1,), 0))] * 100)
        for row in ["beat -+0", "close", "seats -", "tubs -"]:
            self.refused(row, Full)
        for row in ["beat x", "seats x", "tubs x"]:
            self.refused(row, BadText, 0)
        self.refused("beat", BadCommand)
        self.assertEqual(self.desk.say("line"), "nobody + 0")
        self.desk.say("undo")
        self.desk.say("close")
        self.desk.say(f"setup {show_setup(SETUP)}")
        self.assertEqual(self.desk.parlour(), Parlour(SETUP))

    def test_too_many(self):
        self.desk, self.parlour = led_desk(*MEET_MORE, [("beat", comers_of(MEET_MORE[0])[3])])
        for row in ["mean cost", "safe", "day 1", "best"]:
            self.refused(row, TooMany)
        self.refused("mean x", BadWhat)
        self.refused("day 0", BadCount)
        self.desk, self.parlour = led_desk(*MEET_601, [])
        for row in ["halves", "mean away", "day 6", "safe", "best"]:
            self.refused(row, TooMany)
        self.desk, self.parlour = led_desk(*MEET_121, [])
        self.refused("mean cost", TooMany)
        self.desk.say("day 6")
        self.assertEqual(self.desk.say("halves"), "tied")
        self.desk, self.parlour = led_desk(VIEWS_304, EMPTY, [])
        self.refused("best", TooMany)


class RowsFor(unittest.TestCase):
    def test_by_hand(self):
        parlour = Parlour(SETUP, RULE)
        self.assertEqual(rows_for(parlour), [f"house {show_house(SETUP, RULE)}"])
        parlour.beat((1,), 0)
        parlour.beat((), 0)
        parlour.change_seats(())
        parlour.change_tubs(RULE[1])
        parlour.close()
        rows = rows_for(parlour=parlour)
        self.assertEqual(rows, [*EXAMPLE, "seats -", f"tubs {show_tubs(RULE[1])}", "close"])
        rows.append("undo")
        self.assertEqual(len(rows_for(parlour)), 6)

    def test_read_by_a_new_desk(self):
        for seed, (setup, rule) in enumerate(CASES):
            _, parlour = led_desk(setup, rule, some_deeds(seed, setup, 50))
            desk = Desk()
            for row in Random(seed).sample(["beat 1+1", "close", "seats -", "beat -+0"], 3):
                desk.say(row)
            before = parlour.copy()
            for row in rows_for(parlour):
                desk.say(row)
            self.assertEqual(desk.parlour(), parlour)
            self.assertEqual(state(desk.parlour()), state(parlour))
            self.assertEqual(parlour, before)
            self.assertEqual(rows_for(desk.parlour()), rows_for(parlour))

    def test_a_hundred_deeds(self):
        parlour = Parlour(GREAT, (EAGER, READY))
        for place in range(100):
            parlour.beat(*comers_of(GREAT)[place % 9])
        desk = Desk()
        for row in rows_for(parlour):
            desk.say(row)
        self.assertEqual(desk.parlour(), parlour)


class Example(unittest.TestCase):
    """The example of the document, point 52."""

    def test_a_group_of_one_at_each_beat(self):
        parlour = Parlour(SETUP, RULE)
        for place in range(6):
            deeds, empty, away, opened, served, unserved, melted = parlour.beat((1,), 0)
            self.assertEqual((deeds, empty, away), ((("group", 1),), 0, 0))
            self.assertEqual((opened, served, unserved, melted), ((2,) if place % 2 == 0 else (), 1, 0, 0))

    def test_rounds_of_three_and_two(self):
        for nobody, mean in [(2, Fraction(1, 3)), (1, Fraction(1, 2))]:
            parlour = Parlour(SETUP, RULE)
            for _ in range(10):
                parlour.beat((1,), 0)
                for place in range(nobody):
                    melted = parlour.beat((), 0)[6]
                    # the tub that was opened lasts the second beat, and melts at its end
                    self.assertEqual(melted, 1 if place == 0 else 0)
            self.assertEqual(Fraction(parlour.totals()[3], len(parlour)), mean)
        self.assertEqual(long_mean(SETUP, RULE, "melted"), (1, 2))


class Form(unittest.TestCase):
    def test_each_method_stands_in_the_class(self):
        for name in ["__init__", "say", "parlour"]:
            self.assertIn(name, vars(Desk))
        self.assertEqual((Desk.__module__, rows_for.__module__), ("parlourday.desk", "parlourday.desk"))


if __name__ == "__main__":
    unittest.main()
