import itertools
import unittest
from random import Random

from parlourday.errors import BadRule, BadSetup, BadText
from parlourday.texts import (
    read_house, read_row, read_seats, read_setup, read_tubs, show_bill, show_house, show_row, show_seats, show_setup,
    show_tubs,
)

from tests.plain_house import NO_RULES, RULE, some_houses
from tests.plain_parlour import (
    EAGER, GREAT, NO_SETUPS, SETUP, comers_of, run, some_rows, some_seats, some_setups, some_tubs, turning_seats,
)
from tests.plain_tubs import READY, SAVING

NO_TEXTS = [None, True, False, 0, 1, b"seats", [], (), {}, ["-"], ("-",), [["none"]], 10 ** 40]
SETUP_TEXT = "seats 2 sizes 1 2 rooms 2 1 comers 1 0 kinds 2 life 2 prices 1 1 2 1"
GREAT_TEXT = "seats 4 sizes 1 2 rooms 2 2 comers 1 2 kinds 1 3 life 3 prices 1 2 3 4"
SEATS_TEXT = "0 1-2 0-9 0-9 0-9 group 0"
TUBS_TEXT = "0 1-9 0 0-9 0-9 small 0"
TWO_ROWS = "0 1-9 0 0-9 3-5 single 2; 2 0 9 1-2 0-9 go 1"
# A word that is wrong wherever it stands.
WRONG = ["", "x", "10", "0-", "-0", "seat", "Seats", "0;;", ";", "00", "1\n", "\n", "--", "+", "1+", "NONE", "0--1", "a-b",
         "1.", "|;", "9-10", "10-11"]


def place_of(reader, *told):
    try:
        reader(*told)
    except BadText as error:
        return error.place
    return None


class Written(unittest.TestCase):
    def test_by_hand(self):
        self.assertEqual(show_setup(SETUP), SETUP_TEXT)
        self.assertEqual(show_setup(setup=GREAT), GREAT_TEXT)
        self.assertEqual(show_seats(RULE[0]), SEATS_TEXT)
        self.assertEqual(show_tubs(RULE[1]), TUBS_TEXT)
        rule = ((0, (1, 9), (0, 0), (0, 9), (3, 5), "single", 2), (2, (0, 0), (9, 9), (1, 2), (0, 9), "go", 1))
        self.assertEqual(show_seats(seats=rule), TWO_ROWS)
        self.assertEqual(show_seats(()), "-")
        self.assertEqual(show_tubs(tubs=()), "-")
        self.assertEqual(show_row([]), "none")
        self.assertEqual(show_row(row=[((2,), 1), ((), 0), ((1,), 2)]), "2+1 -+0 1+2")
        bill = ((("group", 1), ("single", 1)), 2, 3, (3, 1), 1, 1, 0)
        self.assertEqual(show_bill(bill), "g1 s empty 2 away 3 opened 31 served 1 unserved 1 melted 0")
        bill = ((), 0, 0, (), 0, 0, 2)
        self.assertEqual(show_bill(bill=bill), "- empty 0 away 0 opened - served 0 unserved 0 melted 2")
        self.assertEqual(show_house(SETUP, RULE), f"{SETUP_TEXT} | {SEATS_TEXT} | {TUBS_TEXT}")
        self.assertEqual(show_house(setup=SETUP, rule=((), ())), f"{SETUP_TEXT} | - | -")

    def test_bills_of_rows(self):
        for setup, rule in some_houses(501, 20):
            for bill in run(setup, rule[0], some_rows(1, setup, 1, 20)[0], rule[1])[1]:
                words = show_bill(bill).split(" ")
                numbers = dict(zip(words[-12::2], words[-11::2]))
                self.assertEqual(list(numbers), ["empty", "away", "opened", "served", "unserved", "melted"])
                self.assertEqual(numbers["opened"], "".join(map(str, bill[3])) or "-")
                self.assertEqual([numbers[word] for word in ["empty", "away"]], [str(bill[1]), str(bill[2])])
                self.assertEqual([numbers[word] for word in ["served", "unserved", "melted"]], list(map(str, bill[4:])))
                deeds = words[:-12]
                self.assertEqual(deeds, [{"group": f"g{size}", "single": "s"}[deed] for deed, size in bill[0]] or ["-"])


class ReadBack(unittest.TestCase):
    def test_setups(self):
        for setup in [SETUP, GREAT, *some_setups(502, 300)]:
            self.assertEqual(read_setup(show_setup(setup)), setup)
        self.assertEqual(read_setup(text=SETUP_TEXT), SETUP)

    def test_rules(self):
        for seats in [*some_seats(503, 100, deaf=False), *turning_seats(504, 30), EAGER, ()]:
            self.assertEqual(read_seats(show_seats(seats)), seats)
        for tubs in [*some_tubs(505, 100, deaf=False), READY, SAVING, ()]:
            self.assertEqual(read_tubs(show_tubs(tubs)), tubs)
        self.assertEqual(read_seats(text=SEATS_TEXT), RULE[0])
        self.assertEqual(read_tubs(text=TUBS_TEXT), RULE[1])

    def test_rows(self):
        for place, setup in enumerate([SETUP, GREAT, *some_setups(506, 60)]):
            for row in [[], *some_rows(place, setup, 2, 7), *some_rows(place, setup, 1, 200)]:
                self.assertEqual(read_row(setup, show_row(row)), row)
        self.assertEqual(read_row(setup=SETUP, text="2+0 -+0"), [((2,), 0), ((), 0)])

    def test_houses(self):
        for setup, rule in [(SETUP, RULE), (SETUP, ((), ())), (SETUP, (EAGER, ())), (SETUP, ((), READY)),
                            *some_houses(507, 100)]:
            self.assertEqual(read_house(show_house(setup, rule)), (setup, rule))
        self.assertEqual(read_house(text=f"{SETUP_TEXT} | - | -"), (SETUP, ((), ())))


class Setups(unittest.TestCase):
    def test_each_bound(self):
        words = SETUP_TEXT.split(" ")
        bounds = {1: "1234", 3: "1", 4: "2", 6: "12", 7: "012", 9: "01", 10: "012", 12: "1234", 14: "123"}
        bounds |= {place: "012345" for place in [16, 17, 18, 19]}
        for place, right in bounds.items():
            for digit in "0123456789":
                changed = words[:place] + [digit] + words[place + 1:]
                expected = None if digit in right else place
                if place == 1:
                    # with one seat the second size is too great
                    expected = {"1": 4, "2": None, "3": None, "4": None}.get(digit, 1)
                if place == 3:
                    expected = {"1": None, "2": 4}.get(digit, 3)
                with self.subTest(place=place, digit=digit):
                    self.assertEqual(place_of(read_setup, " ".join(changed)), expected)

    def test_one_or_two_ascending(self):
        def setup(sizes, kinds):
            return f"seats 3 sizes {sizes} rooms 1 0 comers 0 0 kinds {kinds} life 1 prices 0 0 0 0"

        for text in ["1", "3", "1 2", "1 3", "2 3"]:
            self.assertIsNone(place_of(read_setup, setup(text, "1")))
        for text, place in [("0", 3), ("4", 3), ("2 2", 4), ("2 1", 4), ("1 4", 4), ("1 0", 4), ("1 2 3", 5), ("", 3),
                            ("1 ", 4), ("1 2 ", 5), ("1  2", 4), ("12", 3), ("1-2", 3)]:
            with self.subTest(text=text):
                self.assertEqual(place_of(read_setup, setup(text, "1")), place)
        for text in ["1", "4", "1 2", "3 4", "1 4"]:
            self.assertIsNone(place_of(read_setup, setup("1", text)))
        for text, place in [("0", 11), ("5", 11), ("4 4", 12), ("4 3", 12), ("1 5", 12), ("1 2 3", 13), ("", 11)]:
            with self.subTest(text=text):
                self.assertEqual(place_of(read_setup, setup("1", text)), place)

    def test_wrong_missing_and_too_many(self):
        for text in [SETUP_TEXT, GREAT_TEXT]:
            check_words(self, read_setup, text)

    def test_words_that_stand_elsewhere(self):
        self.assertEqual(place_of(read_setup, "sizes 1"), 0)
        self.assertEqual(place_of(read_setup, "seats 2 rooms"), 2)
        self.assertEqual(place_of(read_setup, "seats"), 1)
        self.assertEqual(place_of(read_setup, "seats 2 sizes 1 2"), 5)
        self.assertEqual(place_of(read_setup, "seats 2 sizes 1"), 4)
        for further in [" ", " x", " 0", " |", " seats 1"]:
            self.assertEqual(place_of(read_setup, SETUP_TEXT + further), 20)
        self.assertEqual(place_of(read_setup, " " + SETUP_TEXT), 0)
        self.assertEqual(place_of(read_setup, SETUP_TEXT.replace(" 2 sizes", "  sizes")), 1)
        self.assertEqual(place_of(read_setup, SETUP_TEXT.replace(" sizes", "\nsizes")), 1)


def check_words(test, reader, text, *, ahead=()):
    """At each word a wrong one, one missing, one too many, and two blanks."""
    words = text.split(" ")
    test.assertIsNone(place_of(reader, *ahead, text))
    for place in range(len(words)):
        for wrong in WRONG:
            if wrong != words[place]:
                changed = words[:place] + [wrong] + words[place + 1:]
                with test.subTest(place=place, wrong=wrong):
                    test.assertEqual(place_of(reader, *ahead, " ".join(changed)), place)
        if place:
            test.assertEqual(place_of(reader, *ahead, " ".join(words[:place])), place)
        doubled = " ".join(words[:place]) + "  " + " ".join(words[place:])
        test.assertEqual(place_of(reader, *ahead, doubled), place)
    test.assertEqual(place_of(reader, *ahead, ""), 0)


class Halves(unittest.TestCase):
    def test_wrong_words(self):
        for reader, text in [(read_seats, SEATS_TEXT), (read_tubs, TUBS_TEXT)]:
            check_words(self, reader, text)

    def test_each_bound(self):
        for reader, text, deeds in [
            (read_seats, SEATS_TEXT, ["group", "single", "go"]), (read_tubs, TUBS_TEXT, ["small", "great", "rest"]),
        ]:
            words = text.split(" ")
            for place, digit in itertools.product(range(7), "0123456789"):
                right = digit in "012" if place in (0, 6) else place != 5
                changed = " ".join(words[:place] + [digit] + words[place + 1:])
                self.assertEqual(place_of(reader, changed), None if right else place)
            for word in ["group", "single", "go", "small", "great", "rest", "Go", "go;", "-"]:
                changed = " ".join(words[:5] + [word] + words[6:])
                self.assertEqual(place_of(reader, changed), None if word in deeds else 5)

    def test_ranges(self):
        for low, high in itertools.product("0123456789", repeat=2):
            for place in [1, 2, 3, 4]:
                words = SEATS_TEXT.split(" ")
                words[place] = f"{low}-{high}"
                expected = None if low < high else place
                self.assertEqual(place_of(read_seats, " ".join(words)), expected)
        for word in ["1-", "-1", "1--2", "1-2-3", "01", "1 -2", "0-10", "a", "1-b", "1:2", "1-2;", "-"]:
            self.assertEqual(place_of(read_seats, SEATS_TEXT.replace("1-2", word)), 1 if word != "1 -2" else 2)

    def test_between_rows(self):
        first, second = TWO_ROWS.split("; ")
        self.assertEqual(len(read_seats(TWO_ROWS)), 2)
        for text, place in [
            (f"{first} {second}", 6), (f"{first}; ", 7), (f"{first};", 7), (f"{first}", None), (f"{TWO_ROWS};", 14),
            (f"{TWO_ROWS}; ", 14), (f"{TWO_ROWS} x", 13), (f"{TWO_ROWS} ", 13), (f"{first};; {second}", 6),
            (f"{first};{second}", 6), (f"{first} ; {second}", 6), (f"{first}; ; {second}", 7), (f"{first}; -", 7),
            (f"{first};  {second}", 7), (f"{first} |", 6), (f"{first}; |", 7), (f"{first}, {second}", 6),
            (f"{first}; {first.replace('single', 'small')}", 12), (f"{first}; 3", 7), (f"{first}; 2", 8),
            (f"{first};\n{second}", 6),
        ]:
            with self.subTest(text=text):
                self.assertEqual(place_of(read_seats, text), place)
        wrong = first[:-1] + "3"
        self.assertEqual(place_of(read_seats, f"{wrong}; {second}"), 6)
        self.assertEqual(place_of(read_seats, f"{wrong};"), 6)

    def test_more_than_six_rows(self):
        for reader, row in [(read_seats, SEATS_TEXT), (read_tubs, TUBS_TEXT)]:
            self.assertEqual(len(reader("; ".join([row] * 6))), 6)
            self.assertEqual(place_of(reader, "; ".join([row] * 7)), 42)
            self.assertEqual(place_of(reader, "; ".join([row] * 8)), 42)
            self.assertEqual(place_of(reader, "; ".join([row] * 6) + ";"), 42)
            self.assertEqual(place_of(reader, "; ".join([row] * 6) + "; x"), 42)
            self.assertEqual(place_of(reader, "; ".join([row] * 6) + " 0"), 41)

    def test_nothing(self):
        for reader in [read_seats, read_tubs]:
            self.assertEqual(reader("-"), ())
            for text, place in [("", 0), ("- -", 1), ("- ", 1), (" -", 0), ("-;", 0), ("--", 0), ("none", 0), ("- 0", 1),
                                ("-\n", 0), ("- |", 1)]:
                with self.subTest(text=text):
                    self.assertEqual(place_of(reader, text), place)


class Rows(unittest.TestCase):
    def test_by_hand(self):
        for text, place in [
            ("none", None), ("none ", 1), ("none -+0", 1), ("-+0 none", 1), ("", 0), (" ", 0), ("-+0 ", 1), ("-+0", None),
            ("1+0 2+0", None), ("1+0  2+0", 1), ("3+0", 0), ("1+1", 0), ("-+1", 0), ("11+0", 0), ("+0", 0), ("1+", 0),
            ("1", 0), ("-", 0), ("1+0+0", 0), ("--+0", 0), ("0+0", 0), ("1-+0", 0), ("1+00", 0), ("1+0;", 0), ("-+0 x", 1),
            ("1+0\n", 0), ("1 +0", 0), ("a+0", 0), ("-+a", 0), ("none none", 1), ("None", 0),
        ]:
            with self.subTest(text=text):
                self.assertEqual(place_of(read_row, SETUP, text), place)

    def test_each_comers(self):
        for setup in [SETUP, GREAT, *some_setups(508, 40)]:
            right = {show_row([comers]): comers for comers in comers_of(setup)}
            for groups, singles in itertools.product(["-", *"0123456789", "12", "21", ""], range(10)):
                word = f"{groups}+{singles}"
                if word in right:
                    self.assertEqual(read_row(setup, word), [right[word]])
                else:
                    self.assertEqual(place_of(read_row, setup, word), 0)

    def test_two_hundred(self):
        self.assertEqual(len(read_row(SETUP, " ".join(["-+0"] * 200))), 200)
        for text in [" ".join(["-+0"] * 201), " ".join(["-+0"] * 300), " ".join(["-+0"] * 200) + " x"]:
            self.assertEqual(place_of(read_row, SETUP, text), 200)
        self.assertEqual(place_of(read_row, SETUP, " ".join(["-+0"] * 199) + " x"), 199)

    def test_wrong_words(self):
        words = "1+0 -+0 2+0".split(" ")
        for place, wrong in itertools.product(range(3), WRONG):
            changed = words[:place] + [wrong] + words[place + 1:]
            self.assertEqual(place_of(read_row, SETUP, " ".join(changed)), place)

    def test_setups(self):
        for thing in NO_SETUPS:
            for text in ["none", None]:
                with self.subTest(thing=str(thing)), self.assertRaises(BadSetup):
                    read_row(thing, text)


class Houses(unittest.TestCase):
    def test_wrong_words(self):
        for setup, seats, tubs in [(SETUP_TEXT, SEATS_TEXT, TUBS_TEXT), (GREAT_TEXT, SEATS_TEXT, "-")]:
            text = f"{setup} | {seats} | {tubs}"
            words = text.split(" ")
            self.assertIsNone(place_of(read_house, text))
            ends = [place - 1 for place, word in enumerate(words) if word == "|"]
            for place in range(len(words)):
                for wrong in WRONG:
                    changed = words[:place] + [wrong] + words[place + 1:]
                    # a row that something else than a bar comes behind lacks its sign
                    expected = place - 1 if place == ends[1] + 1 and words[place - 1] != "-" else place
                    with self.subTest(place=place, wrong=wrong):
                        self.assertEqual(place_of(read_house, " ".join(changed)), expected)
                if place:
                    self.assertEqual(place_of(read_house, " ".join(words[:place])), place)

    def test_bars(self):
        for text, place in [
            (f"{SETUP_TEXT} | - | -", None), (f"{SETUP_TEXT} | -", 23 - 1), (f"{SETUP_TEXT} | - -", 22), (SETUP_TEXT, 20),
            (f"{SETUP_TEXT} - | -", 20), (f"{SETUP_TEXT} | | -", 21), (f"{SETUP_TEXT} | - |", 23), (f"{SETUP_TEXT} | - | |", 23),
            (f"{SETUP_TEXT} | - | - |", 24), (f"{SETUP_TEXT} | - | - ", 24), (f"{SETUP_TEXT}| - | -", 19),
            (f"{SETUP_TEXT} |- | -", 20), (f"{SETUP_TEXT} | {SEATS_TEXT}", 28), (f"{SETUP_TEXT} | {SEATS_TEXT} -", 27),
            (f"{SETUP_TEXT} | {SEATS_TEXT}; | -", 28), (f"{SETUP_TEXT} | {SEATS_TEXT};", 28),
            (f"{SETUP_TEXT} | {SEATS_TEXT} | {TUBS_TEXT} |", 35), (f"{SETUP_TEXT} | {SEATS_TEXT} | {TUBS_TEXT};", 36),
            (f"{SETUP_TEXT} | {TUBS_TEXT} | -", 26), (f"{SETUP_TEXT} | - | {SEATS_TEXT}", 28), ("", 0), ("|", 0),
            (f"{SETUP_TEXT} | {SEATS_TEXT}; {SEATS_TEXT} | -", None), (f"{SETUP_TEXT} | {SEATS_TEXT} {SEATS_TEXT} | -", 27),
            (f"{SETUP_TEXT}  | - | -", 20), (f"{SETUP_TEXT} || - | -", 20), (f"{SETUP_TEXT} | {SEATS_TEXT}| -", 27),
        ]:
            with self.subTest(text=text):
                self.assertEqual(place_of(read_house, text), place)

    def test_more_than_six_rows(self):
        six, seven = "; ".join([SEATS_TEXT] * 6), "; ".join([SEATS_TEXT] * 7)
        self.assertIsNone(place_of(read_house, f"{SETUP_TEXT} | {six} | -"))
        self.assertEqual(place_of(read_house, f"{SETUP_TEXT} | {seven} | -"), 21 + 42)
        self.assertEqual(place_of(read_house, f"{SETUP_TEXT} | {six}; | -"), 21 + 42)
        six, seven = "; ".join([TUBS_TEXT] * 6), "; ".join([TUBS_TEXT] * 7)
        self.assertIsNone(place_of(read_house, f"{SETUP_TEXT} | - | {six}"))
        self.assertEqual(place_of(read_house, f"{SETUP_TEXT} | - | {seven}"), 23 + 42)

    def test_errors_of_the_writer(self):
        for thing in NO_SETUPS:
            with self.subTest(thing=str(thing)), self.assertRaises(BadSetup):
                show_house(thing, None)
        for thing in NO_RULES:
            with self.subTest(thing=str(thing)), self.assertRaises(BadRule):
                show_house(SETUP, thing)


class OtherObjects(unittest.TestCase):
    def test_no_texts(self):
        for thing in NO_TEXTS:
            for reader, ahead in [(read_setup, ()), (read_seats, ()), (read_tubs, ()), (read_house, ()), (read_row, (SETUP,))]:
                with self.subTest(thing=str(thing), reader=reader.__name__):
                    self.assertEqual(place_of(reader, *ahead, thing), 0)

    def test_what_is_read_is_written_so(self):
        # a text that is changed at random is read only if it is written just so
        chance = Random(509)
        signs = "0123456789-+;| \nseatgrouplnifm"
        kept = 0
        readers = [
            (read_setup, show_setup, [show_setup(setup) for setup in some_setups(510, 30)]),
            (read_seats, show_seats, [show_seats(seats) for seats in some_seats(511, 30, deaf=False)]),
            (read_tubs, show_tubs, [show_tubs(tubs) for tubs in some_tubs(512, 30, deaf=False)]),
            (read_house, lambda house: show_house(*house), [show_house(*case) for case in some_houses(513, 30)]),
        ]
        for reader, writer, texts in readers:
            for text in texts:
                for _ in range(60):
                    place = chance.randrange(len(text) + 1)
                    changed = text[:place] + chance.choice(["", chance.choice(signs)]) + text[place + chance.randint(0, 2):]
                    fault = place_of(reader, changed)
                    if fault is None:
                        kept += 1
                        self.assertEqual(writer(reader(changed)), changed)
                    else:
                        # the words ahead of the fault may stand: a change behind them does not move it
                        words = changed.split(" ")
                        self.assertTrue(0 <= fault <= len(words))
                        if fault < len(words):
                            again = " ".join(words[:fault + 1] + ["x"])
                            self.assertLessEqual(place_of(reader, again), fault)
        self.assertGreater(kept, 300)


if __name__ == "__main__":
    unittest.main()
