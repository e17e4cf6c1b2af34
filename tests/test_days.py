import itertools
import unittest

from parlourday.days import (
    best_day, day_cost, day_regret, day_row, day_table, day_table_holds, deeds_cost, known_day, known_deeds,
    worst_regret, worst_regret_row,
)
from parlourday.errors import BadCount, BadRow, BadRule, BadSetup, TooMany

from tests.cases import DAY_800, DAY_801
from tests.plain_house import MEET_600, MEET_601, MEET_MORE, NO_RULES, RULE, plain_count, some_houses
from tests.plain_parlour import (
    EAGER, GREAT, NO_ROWS, NO_SETUPS, NO_THINGS, SETUP, UNFAIR, changed_at, comers_of, rows_of, run, small_setups,
    some_rows, some_setups,
)
from tests.plain_search import NO_COUNTS
from tests.plain_tubs import READY, SAVING
from tests.plain_ways import FIRST, TINY, arrivals, beat_ends, best_rest, can_do, come, day_end, do, price

HOUSES = some_houses(471, 60) + [(SETUP, RULE), (GREAT, (EAGER, READY)), (GREAT, (UNFAIR, SAVING)), (SETUP, ((), ()))]
SMALL = TINY[:6] + small_setups(472, 12)
BIG = (4, (1, 2), (2, 2), (1, 2), (1, 4), 3, (3, 2, 5, 4))
# Right ones with too many beats for a known day.
NO_KNOWN = [(thing, place) for thing, place in NO_ROWS if place < 20] + [
    ([((), 0)] * 21, 20), ([((), 0)] * 20 + [None], 20), ([((), 0)] * 19 + [None], 19), ([((), 0)] * 100, 20),
]


def plain_day(setup, rule, row):
    """The cost of a day by a rule: its bills, and what is left at its end."""
    house, bills = run(setup, rule[0], row, rule[1])
    line, singles, tubs, _ = house.standing()
    return sum(plain_count(setup, "cost", bill) for bill in bills) + day_end(setup, (line, singles, tubs))


def plain_best_day(setup, beats):
    return max(
        away * setup[6][3] + best_rest(setup, view, beats, lambda start: day_end(setup, start))
        for away, view in arrivals(setup, FIRST)
    )


def plain_known(setup, row):
    """The least cost of a day of which all comers are known, by all deeds."""
    costs = {FIRST: 0}
    for comers in row:
        further = {}
        for start, paid in costs.items():
            away, view = come(setup, start, comers)
            for _, after, counts in beat_ends(setup, view):
                cost = paid + away * setup[6][3] + price(setup, counts)
                further[after] = min(cost, further.get(after, cost))
        costs = further
    return min(cost + day_end(setup, start) for start, cost in costs.items())


def plain_by_deeds(setup, row, deeds):
    """The cost of a day by lists of right words, None if they cannot be done."""
    start, total = FIRST, 0
    for comers, words in zip(row, deeds):
        away, view = come(setup, start, comers)
        total += away * setup[6][3]
        for word in words:
            if len(view) == 3 or word not in can_do(view):
                return None
            view, counts = do(setup, view, word)
            total += price(setup, counts)
        if len(view) != 3:
            return None
        start = view
    return total + day_end(setup, start)


class Rules(unittest.TestCase):
    def test_by_hand(self):
        # at the day's end a portion melts, or a group that waits is away
        self.assertEqual(day_cost(SETUP, RULE, 1), 1)
        self.assertEqual(day_row(SETUP, RULE, 1), [((1,), 0)])
        self.assertEqual(day_cost(SETUP, ((), ()), 1), 4)
        self.assertEqual(day_row(setup=SETUP, rule=((), ()), beats=1), [((2,), 0)])
        self.assertEqual(day_cost(setup=SETUP, rule=((), ()), beats=3), 12)
        self.assertEqual(day_row(SETUP, ((), ()), 3), [((2,), 0), ((2,), 0), ((2,), 0)])

    def test_all_rows(self):
        for setup, rule in HOUSES:
            for beats in range(1, 7):
                if len(comers_of(setup)) ** beats > 100:
                    break
                costs = {}
                for row in rows_of(setup, beats):
                    costs.setdefault(plain_day(setup, rule, row), row)
                self.assertEqual(day_cost(setup, rule, beats), max(costs))
                self.assertEqual(day_row(setup, rule, beats), costs[max(costs)])

    def test_six_beats(self):
        for place, (setup, rule) in enumerate(HOUSES):
            row = day_row(setup, rule, 6)
            self.assertEqual(len(row), 6)
            self.assertEqual(plain_day(setup, rule, row), day_cost(setup, rule, 6))
            for other in some_rows(place, setup, 30, 6):
                self.assertLessEqual(plain_day(setup, rule, other), day_cost(setup, rule, 6))

    def test_errors(self):
        for asked in [day_cost, day_row]:
            for thing in NO_SETUPS:
                with self.subTest(thing=str(thing)), self.assertRaises(BadSetup):
                    asked(thing, None, None)
            for thing in NO_RULES:
                with self.subTest(thing=str(thing)), self.assertRaises(BadRule):
                    asked(SETUP, thing, None)
            for thing in [*NO_COUNTS, 0, 7]:
                for case in [(SETUP, RULE), MEET_MORE]:
                    with self.subTest(thing=str(thing)), self.assertRaises(BadCount):
                        asked(*case, thing)
            asked(*MEET_600, 1)
            for case in [MEET_601, MEET_MORE]:
                with self.assertRaises(TooMany):
                    asked(*case, 1)


def plain_day_views(setup, beats):
    """For each beat the views that can come by any deeds."""
    layers, level = [], {view for _, view in arrivals(setup, FIRST)}
    for _ in range(beats):
        known, fresh, starts = set(), list(level), set()
        while fresh:
            view = fresh.pop()
            if view not in known:
                known.add(view)
                for deed in can_do(view):
                    after, _ = do(setup, view, deed)
                    if len(after) == 5:
                        fresh.append(after)
                    else:
                        starts.add(after)
        layers.append(known)
        level = {view for start in starts for _, view in arrivals(setup, start)}
    return layers


def plain_table_holds(setup, beats, most, table):
    layers = plain_day_views(setup, beats)
    numbers = {(beat, view): number for beat, view, number, _ in table}
    if len(numbers) < len(table):
        return False
    for away, view in arrivals(setup, FIRST):
        if (0, view) not in numbers or away * setup[6][3] + numbers[(0, view)] > most:
            return False
    for beat, view, number, deed in table:
        if not 0 <= beat < beats or view not in layers[beat] or deed not in can_do(view):
            return False
        after, counts = do(setup, view, deed)
        cost = price(setup, counts)
        if deed != "rest":
            behind = [(0, (beat, after))]
        elif beat == beats - 1:
            if number < cost + day_end(setup, after):
                return False
            continue
        else:
            behind = [(away * setup[6][3], (beat + 1, further)) for away, further in arrivals(setup, after)]
        for more, place in behind:
            if place not in numbers or number < cost + more + numbers[place]:
                return False
    return True


class Best(unittest.TestCase):
    def test_by_hand(self):
        # who sits alone brings a portion that melts, who waits is away: one of both costs as much
        self.assertEqual(best_day(SETUP, 1), 1)
        self.assertEqual(best_day(setup=changed_at(SETUP, (6,), (0, 0, 0, 0)), beats=3), 0)
        self.assertEqual(best_day((1, (1,), (1, 0), (0, 1), (1,), 1, (1, 1, 1, 4)), 2), 8)
        table = day_table((1, (1,), (1, 0), (0, 1), (1,), 1, (1, 1, 1, 4)), 1)
        self.assertEqual(table, [
            (0, ("seat", (), 0, (), 1), 0, "go"), (0, ("tub", (), 0, (), 0), 0, "rest"),
        ])

    def test_all_deeds_and_comers(self):
        found = set()
        for setup in SMALL + some_setups(473, 25):
            for beats in range(1, 7):
                if sum(map(len, plain_day_views(setup, beats))) > 800:
                    for asked in [best_day, day_table]:
                        with self.assertRaises(TooMany):
                            asked(setup, beats)
                    with self.assertRaises(TooMany):
                        day_table_holds(setup, beats, 99, None)
                    break
                cost = plain_best_day(setup, beats)
                found.add(cost)
                self.assertEqual(best_day(setup, beats), cost)
                table = day_table(setup, beats)
                self.assertEqual(table, sorted(table))
                self.assertIs(plain_table_holds(setup, beats, cost, table), True)
                self.assertIs(day_table_holds(setup, beats, cost, table), True)
                self.assertIs(day_table_holds(setup, beats, cost - 1, table), False)
                self.check_met_by_its_deeds(setup, beats, table)
        self.assertGreater(len(found), 15)

    def check_met_by_its_deeds(self, setup, beats, table):
        """Just the views that come by the deeds stand in it, with the costs that come by them."""
        deeds = {(beat, view): (number, deed) for beat, view, number, deed in table}
        met, fresh = set(), [(0, view) for _, view in arrivals(setup, FIRST)]
        while fresh:
            beat, view = fresh.pop()
            met.add((beat, view))
            number, deed = deeds[(beat, view)]
            after, counts = do(setup, view, deed)
            cost = price(setup, counts)
            if deed != "rest":
                behind = [(0, (beat, after))]
            elif beat < beats - 1:
                behind = [(away * setup[6][3], (beat + 1, further)) for away, further in arrivals(setup, after)]
            else:
                behind, cost = [], cost + day_end(setup, after)
            self.assertEqual(number, cost + max([more + deeds[place][0] for more, place in behind], default=0))
            fresh += [place for _, place in behind if place not in met]
        self.assertEqual(met, set(deeds))

    def test_too_many(self):
        self.assertEqual(sum(map(len, plain_day_views(*DAY_800))), 800)
        self.assertEqual(sum(map(len, plain_day_views(*DAY_801))), 801)
        self.assertEqual(best_day(*DAY_800), plain_best_day(*DAY_800))
        day_table(*DAY_800)
        self.assertIs(day_table_holds(*DAY_800, 99, None), False)
        for asked in [best_day, day_table]:
            with self.assertRaises(TooMany):
                asked(*DAY_801)
        for thing in [None, []]:
            with self.assertRaises(TooMany):
                day_table_holds(*DAY_801, 99, thing)

    def test_errors(self):
        for asked, further in [(best_day, []), (day_table, []), (day_table_holds, [0, None])]:
            for thing in NO_SETUPS:
                with self.subTest(thing=str(thing)), self.assertRaises(BadSetup):
                    asked(thing, None, *further)
            for thing in [*NO_COUNTS, 0, 7]:
                for setup in [SETUP, GREAT]:
                    with self.subTest(thing=str(thing)), self.assertRaises(BadCount):
                        asked(setup, thing, *further)


class Tables(unittest.TestCase):
    def test_changed_in_one_part(self):
        held = [0, 0]
        for setup in TINY[:4]:
            for beats in [1, 2]:
                cost, table = best_day(setup, beats), day_table(setup, beats)
                for changed in changed_tables(table, beats):
                    for most in [cost, cost + 1]:
                        expected = plain_table_holds(setup, beats, most, changed)
                        held[expected] += 1
                        self.assertIs(day_table_holds(setup, beats, most, changed), expected)
        self.assertGreater(min(held), 30)

    def test_further_entries(self):
        setup = changed_at(TINY[3], (6,), (0, 0, 0, 0))
        layers = plain_day_views(setup, 2)
        table = [(beat, view, 0, can_do(view)[-1]) for beat, layer in enumerate(layers) for view in layer]
        self.assertIs(day_table_holds(setup, 2, 0, table), True)
        self.assertIs(day_table_holds(setup=setup, beats=2, most=-1, thing=table), False)
        late = [view for view in layers[1] if view not in layers[0]][0]
        self.assertIs(day_table_holds(setup, 2, 0, table + [(0, late, 0, can_do(late)[-1])]), False)

    def test_one_entry_that_is_none(self):
        # with all prices 0 each right number from 0 on holds: so it is the entry itself that is judged
        setup = changed_at(SETUP, (6,), (0, 0, 0, 0))
        layers = plain_day_views(setup, 2)
        table = [(beat, view, 0, can_do(view)[-1]) for beat, layer in enumerate(layers) for view in layer]
        never = ("tub", (), 0, ((0, 1),), 0)
        for entry in [(1, never, 0, "rest"), (1, ([], *never[1:]), 0, "rest"), (1, (), 0, "rest")]:
            self.assertIs(day_table_holds(setup, 2, 0, table + [entry]), False)
        for place, (beat, view, _, deed) in enumerate(table):
            entries = [
                (beat, view, True, deed), (beat, view, False, deed), (beat, view, "0", deed), (beat, view, None, deed),
                (beat, view, 0, None), (beat, view, 0, ["go"]), (beat, view, 0, "open"), (beat, list(view), 0, deed),
                (bool(beat), view, 0, deed), (str(beat), view, 0, deed), [beat, view, 0, deed], (beat, view, 0),
            ]
            for entry in entries:
                with self.subTest(entry=str(entry)):
                    self.assertIs(day_table_holds(setup, 2, 9, table[:place] + [entry] + table[place + 1:]), False)

    def test_other_objects(self):
        table = day_table(SETUP, 2)
        beat, view, number, deed = table[0]
        last = table[-1]
        entries = [
            None, True, 0, (), table[0][:3], table[0] + (0,), list(table[0]), (None, view, number, deed),
            (False, view, number, deed), ("0", view, number, deed), (-1, *last[1:]), (2, *last[1:]),
            (beat, None, number, deed), (beat, list(view), number, deed), (beat, {}, number, deed),
            (beat, view[:4], number, deed), (beat, ("seat", (), False, (), 2), number, deed),
            (beat, ("seat", (), 0, (), 9), number, deed), (beat, ("seat", [], 0, (), 2), number, deed),
            (beat, view, None, deed), (beat, view, True, deed), (beat, view, "0", deed), (beat, view, number, None),
            (beat, view, number, [deed]), (beat, view, number, "small"), (beat, view, number, b"go"),
        ]
        self.assertIs(day_table_holds(SETUP, 2, 99, table), True)
        for entry in entries:
            with self.subTest(entry=str(entry)):
                self.assertIs(day_table_holds(SETUP, 2, 99, table + [entry]), False)
                self.assertIs(day_table_holds(SETUP, 2, 99, [entry] + table), False)
        for thing in [*NO_THINGS, tuple(table), dict(enumerate(table)), table + table[:1]]:
            with self.subTest(thing=str(thing)):
                self.assertIs(day_table_holds(SETUP, 2, 99, thing), False)


def changed_tables(table, beats):
    yield table[::-1]
    yield table + table[:1]
    yield []
    for place, (beat, view, number, deed) in enumerate(table):
        yield table[:place] + table[place + 1:]
        entries = [(beat, view, number + step, deed) for step in (-1, 1)]
        entries += [(other, view, number, deed) for other in range(beats) if other != beat]
        entries += [(beat, view, number, other) for other in ["group", "single", "go", "small", "rest"] if other != deed]
        for entry in entries:
            yield table[:place] + [entry] + table[place + 1:]


class Known(unittest.TestCase):
    def test_by_hand(self):
        self.assertEqual(known_day(SETUP, []), 0)
        self.assertEqual(known_deeds(SETUP, []), [])
        self.assertEqual(deeds_cost(SETUP, [], []), 0)
        # both wait for one another and share a tub, or each one sits at once: both of one tub
        row = [((1,), 0), ((1,), 0)]
        self.assertEqual(known_day(setup=SETUP, row=row), 0)
        self.assertEqual(known_deeds(setup=SETUP, row=row), [("group", "go", "small", "rest"), ("group", "go", "rest")])
        self.assertEqual(deeds_cost(setup=SETUP, row=row, thing=known_deeds(SETUP, row)), 0)
        self.assertEqual(deeds_cost(SETUP, row, [("go", "rest"), ("group", "group", "go", "great", "rest")]), 2)
        self.assertEqual(deeds_cost(SETUP, row, [("go", "rest"), ("go", "rest")]), 2 + 2 + 2)

    def test_all_deeds(self):
        found = set()
        for place, setup in enumerate(TINY + some_setups(474, 40)):
            for length in [1, 2, 3, 5]:
                for row in some_rows(place + length, setup, 3, length):
                    cost = plain_known(setup, row)
                    found.add(cost)
                    self.assertEqual(known_day(setup, row), cost)
                    deeds = known_deeds(setup, row)
                    self.assertEqual(plain_by_deeds(setup, row, deeds), cost)
                    self.assertEqual(deeds_cost(setup, row, deeds), cost)
                    self.assertTrue(all(words.index("go") < len(words) - 1 and words[-1] == "rest" for words in deeds))
        self.assertGreater(len(found), 10)

    def test_twenty_beats(self):
        for place, setup in enumerate(TINY + [SETUP, GREAT, BIG]):
            for row in some_rows(place, setup, 2, 20):
                cost, deeds = known_day(setup, row), known_deeds(setup, row)
                self.assertEqual(deeds_cost(setup, row, deeds), cost)
                self.assertEqual(plain_by_deeds(setup, row, deeds), cost)
                if setup in TINY:
                    self.assertEqual(plain_known(setup, row), cost)
                for rule in [(EAGER, READY), (UNFAIR, SAVING)]:
                    self.assertLessEqual(cost, plain_day(setup, rule, row))

    def test_any_deeds(self):
        held = [0, 0]
        words = ["group", "single", "go", "small", "great", "rest"]
        for place, setup in enumerate(TINY):
            for row in some_rows(place, setup, 2, 2):
                right = known_deeds(setup, row)
                for beat in [0, 1]:
                    for changed in changed_words(right[beat], words):
                        deeds = right[:beat] + [changed] + right[beat + 1:]
                        expected = plain_by_deeds(setup, row, deeds)
                        held[expected is None] += 1
                        self.assertEqual(deeds_cost(setup, row, deeds), expected)
        self.assertGreater(min(held), 100)

    def test_all_ends_of_a_beat(self):
        for setup in TINY:
            for comers in comers_of(setup):
                away, view = come(setup, FIRST, comers)
                for deeds, start, counts in beat_ends(setup, view):
                    cost = away * setup[6][3] + price(setup, counts) + day_end(setup, start)
                    self.assertEqual(deeds_cost(setup, [comers], [deeds]), cost)

    def test_other_objects(self):
        row = [((1,), 0), ((2,), 0)]
        right = known_deeds(SETUP, row)
        words = right[0]
        things = [
            *NO_THINGS, tuple(right), right[:1], right + [("go", "rest")], [list(words), right[1]], [None, right[1]],
            [words[:-1], right[1]], [words + ("rest",), right[1]], [(), right[1]], [("go",), right[1]],
            [("rest",), right[1]], [("rest", "go"), right[1]], [("go", "go", "rest"), right[1]],
            [("go", "rest", "rest"), right[1]], [("go", "rest", "go", "rest"), right[1]], [("go rest",), right[1]],
            [("single", "go", "rest"), right[1]], [("group", "group", "go", "rest"), right[1]],
            [("go", "group", "rest"), right[1]], [("go", "small", "small", "small", "rest"), right[1]],
            [(None, "go", "rest"), right[1]], [("go", ["rest"]), right[1]], [(b"go", "rest"), right[1]],
            [("go", True, "rest"), right[1]], ["go", right[1]], "go", [("small", "go", "rest"), right[1]],
        ]
        for thing in things:
            with self.subTest(thing=str(thing)):
                self.assertIsNone(deeds_cost(SETUP, row, thing))
        self.assertEqual(deeds_cost(SETUP, row, right), known_day(SETUP, row))

    def test_errors(self):
        for asked, further in [(known_day, []), (known_deeds, []), (deeds_cost, [None])]:
            for thing in NO_SETUPS:
                with self.subTest(thing=str(thing)), self.assertRaises(BadSetup):
                    asked(thing, None, *further)
            for thing, place in NO_KNOWN:
                with self.subTest(thing=str(thing)[:60]), self.assertRaises(BadRow) as caught:
                    asked(SETUP, thing, *further)
                self.assertEqual(caught.exception.place, place)


def changed_words(words, others):
    yield words
    yield words[::-1]
    for place in range(len(words) + 1):
        for other in others:
            yield words[:place] + (other,) + words[place:]
            yield words[:place] + (other,) + words[place + 1:]
        yield words[:place] + words[place + 1:]


class Regret(unittest.TestCase):
    def test_by_hand(self):
        self.assertEqual(day_regret(SETUP, RULE, []), 0)
        self.assertEqual(day_regret(setup=SETUP, rule=((), ()), row=[((1,), 0), ((1,), 0)]), 6)
        self.assertEqual(worst_regret(setup=SETUP, rule=((), ()), beats=1), 4)
        self.assertEqual(worst_regret_row(setup=SETUP, rule=((), ()), beats=1), [((2,), 0)])

    def test_all_rows(self):
        found = set()
        for setup, rule in HOUSES + [(setup, (EAGER, READY)) for setup in TINY]:
            for beats in [1, 2, 3]:
                if len(comers_of(setup)) ** beats > 30:
                    break
                regrets = {}
                for row in rows_of(setup, beats):
                    less = plain_day(setup, rule, row) - plain_known(setup, row)
                    regrets.setdefault(less, row)
                    self.assertGreaterEqual(less, 0)
                    self.assertEqual(day_regret(setup, rule, row), less)
                found.add(max(regrets))
                self.assertEqual(worst_regret(setup, rule, beats), max(regrets))
                self.assertEqual(worst_regret_row(setup, rule, beats), regrets[max(regrets)])
        self.assertGreater(len(found), 10)

    def test_the_greatest_setups(self):
        for setup, rule in itertools.product([GREAT, BIG], [(EAGER, READY), (UNFAIR, SAVING)]):
            worst, row = worst_regret(setup, rule, 3), worst_regret_row(setup, rule, 3)
            self.assertEqual(day_regret(setup, rule, row), worst)
            for other in some_rows(9, setup, 20, 3):
                self.assertLessEqual(day_regret(setup, rule, other), worst)
            for length in [12, 20]:
                long = some_rows(10, setup, 1, length)[0]
                self.assertEqual(day_regret(setup, rule, long), plain_day(setup, rule, long) - known_day(setup, long))

    def test_no_bound_of_standings(self):
        # a day of twenty beats meets few standings, however many there are
        for setup, rule in [MEET_601, MEET_MORE]:
            row = some_rows(11, setup, 1, 20)[0]
            self.assertEqual(day_regret(setup, rule, row), plain_day(setup, rule, row) - known_day(setup, row))
            self.assertGreaterEqual(worst_regret(setup, rule, 2), 0)

    def test_errors(self):
        for asked in [day_regret, worst_regret, worst_regret_row]:
            for thing in NO_SETUPS:
                with self.subTest(thing=str(thing)), self.assertRaises(BadSetup):
                    asked(thing, None, None)
            for thing in NO_RULES:
                with self.subTest(thing=str(thing)), self.assertRaises(BadRule):
                    asked(SETUP, thing, None)
        for thing, place in NO_KNOWN:
            with self.subTest(thing=str(thing)[:60]), self.assertRaises(BadRow) as caught:
                day_regret(SETUP, RULE, thing)
            self.assertEqual(caught.exception.place, place)
        for asked in [worst_regret, worst_regret_row]:
            for thing in [*NO_COUNTS, 0, 4]:
                with self.subTest(thing=str(thing)), self.assertRaises(BadCount):
                    asked(SETUP, RULE, thing)


if __name__ == "__main__":
    unittest.main()
