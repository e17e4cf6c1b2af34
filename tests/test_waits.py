import itertools
import unittest

from parlourday.errors import BadAsking, BadCount, BadSeats, BadSetup, BadWhat, NotDeaf
from parlourday.seats import seats_after, seats_met, seats_of
from parlourday.waits import (
    lean_seats, longest_wait, needless_rows, quiet_beats, row_asking, seated_curve, seats_apart, seats_classes,
    wait_ring, wait_ring_holds,
)

from tests.plain_parlour import (
    ANY, EAGER, GREAT, HEARING, LAZY, NO_SEATS, NO_SETUPS, NO_THINGS, SETUP, UNFAIR, House, changed_at, comers_of,
    lively, plain_seats_apart, rows_of, run, sat, seats_beat, set_house, small_setups, some_rows, some_seats,
    some_setups, turning_seats,
)
from tests.plain_search import NO_COUNTS
from tests.test_seats import EXAMPLE, MOODY, met

CASES = list(zip(some_setups(111, 60), some_seats(112, 30) + turning_seats(118, 30)))
CASES += lively(some_setups(120, 800), some_seats(121, 400) + turning_seats(122, 400), 60)
CASES += [(GREAT, rule) for rule in [LAZY, EAGER, UNFAIR, MOODY]] + [(SETUP, EXAMPLE), (SETUP, LAZY), (SETUP, EAGER)]
SMALL = list(zip(small_setups(113, 30), some_seats(114, 15) + turning_seats(119, 15)))
SMALL += lively(small_setups(123, 2000), some_seats(124, 1000) + turning_seats(125, 1000), 60)
ONE_SEAT = (1, (1,), (2, 2), (1, 1), (2,), 2, (1, 1, 2, 1))
KINDS = ["group", "single"]
FAULTS = [(thing, -1) for thing in [None, True, 0, "", "01", (), (0,), {}]] + [
    ([None], 0), ([True], 0), ([False], 0), (["0"], 0), ([-1], 0), ([3], 0), ([(0,)], 0), ([[0]], 0), ([0, 2, 3], 2),
    ([0] * 201, 200), ([0] * 200 + [None], 200), ([0] * 199 + [None], 199),
]


def plain_curve(setup, rule, count):
    places = met(setup, rule)
    totals = {place: {0} for place in places}
    curve = []
    for _ in range(count + 1):
        sums = [total for found in totals.values() for total in found]
        curve.append((min(sums), max(sums)))
        totals = {
            place: {
                total + sum(size for _, size in word[0])
                for after, word in [seats_beat(setup, rule, place, comers) for comers in comers_of(setup)]
                for total in (min(totals[after]), max(totals[after]))
            }
            for place in places
        }
    return curve


def waits_behind(setup, rule, wait, comers, what):
    """The wait (standing, ahead) of one that waited, behind a beat; None if it sits at it."""
    (line, singles, mood), ahead = wait
    house = set_house(setup, rule, (), (line, singles, (), (mood, 0)))
    one = (house.groups if what == "group" else house.singles)[ahead]
    house.tell(comers)
    return where(house, one, what)


def where(house, one, what):
    waiting = house.groups if what == "group" else house.singles
    places = [place for place, guest in enumerate(waiting) if guest is one]
    return (house.seats_standing(), places[0]) if places else None


def waits_begun(setup, rule, what):
    """All waits of ones of a kind at the end of the beat at which they came."""
    found = set()
    for (line, singles, mood), comers in itertools.product(met(setup, rule), comers_of(setup)):
        house = set_house(setup, rule, (), (line, singles, (), (mood, 0)))
        house.tell(comers)
        if house.found[what] is not None:
            found.add(where(house, house.found[what], what))
    return found - {None}


def plain_longest(setup, rule, what):
    """The most beats at whose ends one of a kind waits: a longest walk of waits, None if one goes round."""
    lengths, path = {}, []

    def length(wait):
        if wait in path:
            return None
        if wait not in lengths:
            path.append(wait)
            behind = [waits_behind(setup, rule, wait, comers, what) for comers in comers_of(setup)]
            found = [length(after) for after in behind if after is not None]
            path.pop()
            lengths[wait] = None if None in found else 1 + max(found, default=0)
        return lengths[wait]

    found = [length(wait) for wait in sorted(waits_begun(setup, rule, what))]
    return None if None in found else max(found, default=0)


def plain_ring_holds(setup, rule, what, thing):
    ahead, again, place = thing
    if not again or not 0 <= place < len(ahead):
        return False
    house = House(setup, rule)
    for beat, comers in enumerate(ahead):
        house.tell(comers)
        if beat == place:
            one = house.found[what]
    first = where(house, one, what) if one is not None else None
    for comers in again:
        house.tell(comers)
    return first is not None and where(house, one, what) == first


class Curve(unittest.TestCase):
    def test_by_hand(self):
        self.assertEqual(seated_curve(SETUP, EXAMPLE, 2), [(0, 0), (0, 2), (0, 4)])
        self.assertEqual(seated_curve(SETUP, LAZY, 1), [(0, 0), (0, 0)])
        self.assertEqual(seated_curve(setup=SETUP, seats=LAZY, count=0), [(0, 0)])
        # two singles can wait at most, and sit at the beat at which the mood comes to be 0
        self.assertEqual(seated_curve(GREAT, MOODY, 5), [(0, 0), (0, 1), (0, 1), (0, 2), (0, 2), (0, 3)])

    def test_all_walks(self):
        for place, (setup, rule) in enumerate(CASES + SMALL):
            count = [3, 8, 40][place % 3]
            self.assertEqual(seated_curve(setup, rule, count), plain_curve(setup, rule, count))

    def test_errors(self):
        for thing in [*NO_COUNTS, 41]:
            for rule in [EAGER, HEARING]:
                with self.subTest(thing=str(thing)), self.assertRaises(BadCount):
                    seated_curve(SETUP, rule, thing)


class Waits(unittest.TestCase):
    def test_by_hand(self):
        self.assertEqual(longest_wait(SETUP, EXAMPLE), (0, 0))
        self.assertEqual(longest_wait(setup=SETUP, seats=LAZY), (None, 0))
        self.assertEqual(longest_wait(ONE_SEAT, EAGER), (0, None))
        self.assertEqual(longest_wait(ONE_SEAT, UNFAIR), (None, 0))
        self.assertIsNone(wait_ring(ONE_SEAT, EAGER, "group"))
        self.assertIsNone(wait_ring(setup=SETUP, seats=LAZY, what="single"))
        self.assertIs(wait_ring_holds(SETUP, LAZY, "group", ([((1,), 0)], [((), 0)], 0)), True)
        self.assertIs(wait_ring_holds(setup=SETUP, seats=LAZY, what="group", thing=([((), 0)], [((), 0)], 0)), False)

    def test_one_seat_by_turns(self):
        # one seat for a single, then one for a group, then the bench stays empty
        turns = (
            (0, ANY, (1, 1), ANY, ANY, "single", 1), (0, ANY, ANY, ANY, ANY, "go", 1),
            (1, ANY, (1, 1), ANY, ANY, "group", 0), (1, ANY, ANY, ANY, ANY, "go", 0),
        )
        for rule in [turns, EAGER, UNFAIR]:
            for what, found in zip(KINDS, longest_wait(ONE_SEAT, rule)):
                self.assertEqual(found, plain_longest(ONE_SEAT, rule, what))

    def test_all_waits(self):
        finite = 0
        for setup, rule in CASES + SMALL:
            expected = tuple(plain_longest(setup, rule, what) for what in KINDS)
            finite = max([finite, *[count for count in expected if count is not None]])
            self.assertEqual(longest_wait(setup, rule), expected)
            for what, count in zip(KINDS, expected):
                ring = wait_ring(setup, rule, what)
                self.assertEqual(ring is None, count is not None)
                if ring is not None:
                    self.assertEqual([part.__class__ for part in ring], [list, list, int])
                    self.assertIs(plain_ring_holds(setup, rule, what, ring), True)
                    self.assertIs(wait_ring_holds(setup, rule, what, ring), True)
        self.assertGreaterEqual(finite, 3)

    def test_changed_rings(self):
        held = 0
        for setup, rule in CASES + SMALL:
            for what in KINDS:
                ring = wait_ring(setup, rule, what)
                if ring is None:
                    continue
                for thing in changed_rings(setup, ring):
                    expected = plain_ring_holds(setup, rule, what, thing)
                    held += expected
                    self.assertIs(wait_ring_holds(setup, rule, what, thing), expected)
        self.assertGreater(held, 100)

    def test_the_last_one_that_found_room(self):
        # of two singles that come at once the second one waits, the first one sits
        one = (1, (1,), (1, 2), (0, 2), (2,), 2, (1, 1, 2, 1))
        row = [((), 2)]
        self.assertIs(wait_ring_holds(one, LAZY, "single", (row, [((), 0)], 0)), True)
        first_sits = ((0, ANY, ANY, (2, 2), ANY, "single", 0),)
        self.assertIs(wait_ring_holds(one, first_sits, "single", (row, [((), 0)], 0)), True)
        self.assertIs(wait_ring_holds(one, first_sits, "single", (row * 2, [((), 0)], 0)), False)
        self.assertIs(wait_ring_holds(one, first_sits, "single", (row, [((), 1)], 0)), False)

    def test_one_that_did_not_come_or_found_no_room(self):
        for what, one in [("group", ((1,), 0)), ("single", ((), 1))]:
            setup = (1, (1,), (2, 2), (1, 2), (2,), 2, (1, 1, 2, 1))
            nobody = ((), 0)
            for ahead, place, expected in [
                ([one, nobody], 0, True), ([one, nobody], 1, False), ([nobody, one], 1, True), ([nobody, one], 0, False),
                ([one, one], 1, True), ([one, one, one], 2, False), ([one, one, one], 1, True), ([one], 0, True),
                ([((1,), 2)], 0, True), ([((1,), 2)] * 2, 1, what == "group"), ([((1,), 2)] * 3, 2, False),
                ([one, ((1,), 2)], 1, True),
            ]:
                thing = (ahead, [nobody], place)
                self.assertIs(plain_ring_holds(setup, LAZY, what, thing), expected)
                self.assertIs(wait_ring_holds(setup, LAZY, what, thing), expected)

    def test_long_rings(self):
        ahead, again = [((1,), 0)], [((), 0)]
        for more, expected in [(9999, True), (10000, True), (10001, False)]:
            self.assertIs(wait_ring_holds(SETUP, LAZY, "group", (ahead, again * more, 0)), expected)
            self.assertIs(wait_ring_holds(SETUP, LAZY, "group", (ahead + again * (more - 1), again, 0)), expected)

    def test_other_objects(self):
        ahead, again = [((1,), 0)], [((), 0)]
        things = NO_THINGS + [
            [ahead, again, 0], (ahead, again), (ahead, again, 0, 0), (tuple(ahead), again, 0), (ahead, tuple(again), 0),
            (ahead, [], 0), (ahead, again, True), (ahead, again, False), (ahead, again, None), (ahead, again, "0"),
            (ahead, again, 1), (ahead, again, -1), (None, again, 0), (ahead, None, 0), (ahead, [None], 0),
            ([None], again, 0), ([((True,), 0)], again, 0), (ahead, [((), False)], 0), (ahead, [((), 1)], 0),
            ([((3,), 0)], again, 0), (ahead, [[(), 0]], 0), ([], again, 0), ([], again, -1), (ahead, [([], 0)], 0),
        ]
        for thing in things:
            with self.subTest(thing=str(thing)):
                self.assertIs(wait_ring_holds(SETUP, LAZY, "group", thing), False)

    def test_errors(self):
        for thing in [None, True, 0, "", "groups", "Group", b"group", ("group",), ["single"], {}]:
            for rule in [EAGER, HEARING]:
                with self.subTest(thing=str(thing)), self.assertRaises(BadWhat):
                    wait_ring(SETUP, rule, thing)
                with self.assertRaises(BadWhat):
                    wait_ring_holds(SETUP, rule, thing, None)


def changed_rings(setup, ring):
    ahead, again, place = ring
    yield (ahead, again * 2, place)
    for other in range(len(ahead + again)):
        yield (ahead + again, again, other)
    for comers in comers_of(setup):
        yield (ahead + [comers] * 3, [((), 0)], len(ahead) + 2)
    for other in range(-1, len(ahead) + 1):
        yield (ahead, again, other)
    for beat, comers in itertools.product(range(len(ahead)), comers_of(setup)):
        yield (ahead[:beat] + [comers] + ahead[beat + 1:], again, place)
    for beat, comers in itertools.product(range(len(again)), comers_of(setup)):
        yield (ahead, again[:beat] + [comers] + again[beat + 1:], place)
    for beat in range(len(again)):
        yield (ahead, again[:beat] + again[beat + 1:], place)
    for beat in range(len(ahead)):
        yield (ahead[:beat] + ahead[beat + 1:], again, place)
        yield (ahead[:beat] + ahead[beat + 1:], again, place - 1)


class Quiet(unittest.TestCase):
    def test_by_hand(self):
        self.assertEqual(quiet_beats(SETUP, EXAMPLE), 0)
        self.assertIsNone(quiet_beats(setup=SETUP, seats=LAZY))
        self.assertEqual(quiet_beats(SETUP, EAGER), 0)
        self.assertEqual(quiet_beats(ONE_SEAT, EAGER), 2)

    def test_all_standings(self):
        for setup, rule in CASES + SMALL:
            places = met(setup, rule)
            counts = []
            for place in places:
                count = 0
                while (place[0] or place[1]) and count <= len(places):
                    place, count = seats_beat(setup, rule, place, ((), 0))[0], count + 1
                counts.append(count)
            expected = None if max(counts) > len(places) else max(counts)
            self.assertEqual(quiet_beats(setup, rule), expected)


class Apart(unittest.TestCase):
    def test_by_hand(self):
        self.assertIsNone(seats_apart(SETUP, EAGER, EAGER[:1]))
        self.assertEqual(seats_apart(setup=SETUP, seats=EAGER, other=LAZY), [((1,), 0)])
        only_ones = ((0, (1, 1), ANY, ANY, ANY, "group", 0),)
        self.assertEqual(seats_apart(SETUP, EAGER, only_ones), [((2,), 0)])
        self.assertEqual(seats_apart(GREAT, EAGER, UNFAIR), [((1,), 1)])
        # the standings differ by their moods alone, which nothing tells
        self.assertIsNone(seats_apart(SETUP, ((0, ANY, ANY, ANY, ANY, "go", 1),), LAZY))

    def test_all_rows(self):
        found = []
        pairs = list(zip(SMALL, some_seats(115, 80)))
        pairs += [((setup, rule), rule[:place] + rule[place + 1:]) for setup, rule in SMALL for place in range(len(rule))]
        for (setup, rule), other in pairs:
            row = seats_apart(setup, rule, other)
            self.assertEqual(row, plain_seats_apart(setup, rule, other))
            self.assertEqual(seats_apart(setup, other, rule), row)
            if row is not None:
                found.append(len(row))
                self.assertNotEqual(seats_of(setup, rule, row), seats_of(setup, other, row))
        self.assertGreaterEqual(max(found), 4)

    def test_first_shortest_row(self):
        for (setup, rule), other in zip(SMALL, some_seats(115, 80)):
            rows = [row for count in range(4) for row in rows_of(setup, count)]
            rows = [row for row in rows if run(setup, rule, row)[1] != run(setup, other, row)[1]]
            row = seats_apart(setup, rule, other)
            if rows or (row is not None and len(row) < 4):
                self.assertEqual(row, rows[0])

    def test_greatest_setup(self):
        for rule, other in zip(some_seats(116, 12), some_seats(117, 12)):
            self.assertEqual(seats_apart(GREAT, rule, other), plain_seats_apart(GREAT, rule, other))

    def test_errors(self):
        for thing in NO_SEATS:
            with self.subTest(thing=str(thing)), self.assertRaises(BadSeats):
                seats_apart(SETUP, EAGER, thing)
            with self.assertRaises(BadSeats):
                seats_apart(SETUP, HEARING, thing)
        with self.assertRaises(NotDeaf):
            seats_apart(SETUP, EAGER, HEARING)
        with self.assertRaises(NotDeaf):
            seats_apart(SETUP, HEARING, EAGER)


class Classes(unittest.TestCase):
    def test_by_hand(self):
        self.assertEqual(seats_classes(SETUP, EXAMPLE), [[((), 0, 0)]])
        one = changed_at(SETUP, (2,), (1, 0))
        self.assertEqual(seats_classes(setup=one, seats=LAZY), [[((), 0, 0)], [((1,), 0, 0), ((2,), 0, 0)]])
        moods = ((0, ANY, ANY, ANY, ANY, "go", 1), (1, ANY, ANY, ANY, ANY, "go", 0))
        self.assertEqual(seats_classes(one, moods)[0], [((), 0, 0), ((), 0, 1)])

    def test_all_pairs_of_standings(self):
        several = 0
        for setup, rule in SMALL[:40]:
            places = met(setup, rule)
            classes = []
            for place in places:
                alike = [
                    members for members in classes
                    if plain_seats_apart(setup, rule, rule, members[0], place) is None
                ]
                if alike:
                    alike[0].append(place)
                else:
                    classes.append([place])
            several += any(len(members) > 1 for members in classes)
            self.assertEqual(seats_classes(setup, rule), classes)
        self.assertGreater(several, 5)


class Needless(unittest.TestCase):
    def test_by_hand(self):
        self.assertEqual(needless_rows(SETUP, EAGER), [1])
        self.assertEqual(needless_rows(GREAT, EAGER), [])
        self.assertEqual(needless_rows(setup=SETUP, seats=EAGER * 2), [0, 1, 2, 3])
        self.assertEqual(lean_seats(SETUP, EAGER * 2), EAGER[:1])
        self.assertEqual(lean_seats(setup=SETUP, seats=LAZY), LAZY)

    def test_plainly(self):
        for setup, rule in CASES[:60] + SMALL:
            self.assertEqual(needless_rows(setup, rule), plain_needless(setup, rule))
            lean = rule
            while plain_needless(setup, lean):
                last = plain_needless(setup, lean)[-1]
                lean = lean[:last] + lean[last + 1:]
            self.assertEqual(lean_seats(setup, rule), lean)
            self.assertIsNone(plain_seats_apart(setup, rule, lean))


def plain_needless(setup, rule):
    return [
        place for place in range(len(rule))
        if plain_seats_apart(setup, rule, rule[:place] + rule[place + 1:]) is None
    ]


class RowAsking(unittest.TestCase):
    def test_by_hand(self):
        self.assertEqual(row_asking(SETUP, EXAMPLE, []), [])
        self.assertEqual(row_asking(SETUP, EXAMPLE, [2, 0, 1]), [((2,), 0), ((), 0), ((1,), 0)])
        self.assertIsNone(row_asking(setup=SETUP, seats=LAZY, asking=[0, 1]))
        self.assertEqual(row_asking(SETUP, LAZY, [0, 0]), [((), 0), ((), 0)])

    def test_all_short_askings(self):
        for (setup, rule), count in itertools.product(SMALL, range(4)):
            rows = {}
            for row in rows_of(setup, count):
                rows.setdefault(tuple(sat(bill) for bill in run(setup, rule, row)[1]), row)
            for asking in itertools.product(range(setup[0] + 1), repeat=count):
                self.assertEqual(row_asking(setup, rule, list(asking)), rows.get(asking))

    def test_long_askings(self):
        for place, (setup, rule) in enumerate(CASES[:40] + CASES[-6:]):
            row = some_rows(place, setup, 1, 200)[0]
            asking = [sat(bill) for bill in run(setup, rule, row)[1]]
            found = row_asking(setup, rule, asking)
            self.assertEqual([sat(bill) for bill in run(setup, rule, found)[1]], asking)
            self.assertLessEqual(found, row)

    def test_errors(self):
        for thing, place in FAULTS:
            for rule in [EAGER, HEARING]:
                with self.subTest(thing=str(thing)[:60]), self.assertRaises(BadAsking) as caught:
                    row_asking(SETUP, rule, thing)
                self.assertEqual(caught.exception.place, place)
        self.assertIsNone(row_asking(SETUP, LAZY, [2] * 200))
        with self.assertRaises(NotDeaf):
            row_asking(SETUP, HEARING, [])


class Errors(unittest.TestCase):
    def test_setup_and_rule(self):
        asked = [
            (seated_curve, [1]), (longest_wait, []), (wait_ring, ["group"]), (wait_ring_holds, ["group", None]),
            (quiet_beats, []), (seats_apart, [EAGER]), (seats_classes, []), (needless_rows, []), (lean_seats, []),
            (row_asking, [[]]),
        ]
        for function, further in asked:
            for thing in NO_SETUPS:
                with self.subTest(function=function.__name__, thing=str(thing)), self.assertRaises(BadSetup):
                    function(thing, None, *[None for _ in further])
            for thing in NO_SEATS:
                with self.subTest(function=function.__name__, thing=str(thing)), self.assertRaises(BadSeats):
                    function(SETUP, thing, *[None for _ in further])
                with self.assertRaises(BadSeats):
                    function(SETUP, thing, *further)
            with self.assertRaises(NotDeaf):
                function(SETUP, HEARING, *further)
            for setup, rule in [*CASES[:20], (GREAT, EAGER)]:
                function(setup, rule, *further)

    def test_standings_are_those_met(self):
        for setup, rule in CASES[:30]:
            self.assertEqual(sorted(sum(seats_classes(setup, rule), [])), seats_met(setup, rule))
            ring = wait_ring(setup, rule, "group")
            if ring is not None:
                self.assertEqual(seats_after(setup, rule, ring[0]), seats_after(setup, rule, ring[0] + ring[1]))


if __name__ == "__main__":
    unittest.main()
