import unittest

from parlourday.beside import (
    alike, deafened, felt_for, gap_paper, gap_paper_holds, gap_row, greatest_gap, harm, listens, mean_gap, never_harms,
    one_more, one_more_row,
)
from parlourday.errors import BadRule, BadSeats, BadSetup, BadTubs, TooMany

from tests.cases import FAR, PAIRS_600, PAIRS_601, TWINS_600, TWINS_601
from tests.plain_house import (
    BOTH_HEAR, FEW_SEATS, FEW_TUBS, MANY, MEET_120, MEET_600, MEET_601, MEET_MORE, NO_RULES, RULE, START, met_house,
    plain_count, small_houses, some_houses,
)
from tests.plain_pairs import (
    growths, pair_beat, pairs_met, plain_gap_web, short_rows, single_pairs, small_pairs, some_pairs, total,
    with_one_more,
)
from tests.plain_parlour import (
    ANY, EAGER, GREAT, HEARING, NO_SEATS, NO_SETUPS, NO_THINGS, SETUP, UNFAIR, changed_at, comers_of, first_row,
    plain_web, run, some_rows,
)
from tests.plain_search import means, met, pair, walks_up_to
from tests.plain_tubs import HEARING_TUBS, NO_TUBS, READY, SAVING

SMALL = small_pairs(431, 60)
GREATER = [case for case in some_pairs(432, 60) if len(pairs_met(*case, most=200)) <= 200]
HOUSES = small_houses(433, 160)
SINGLES = [case for case in HOUSES if case[0][3][1]]
BOTH = (START, START)
# One of two seats costs more for each single that comes while a group of two waits.
DEAR = (2, (1, 2), (1, 1), (1, 1), (2,), 2, (1, 1, 2, 1))


class Alike(unittest.TestCase):
    def test_by_hand(self):
        self.assertIsNone(alike(SETUP, RULE, RULE))
        self.assertEqual(alike(SETUP, RULE, (EAGER, ())), [((1,), 0)])
        self.assertEqual(alike(setup=SETUP, rule=RULE, other=(EAGER[:1], READY)), [((1,), 0), ((2,), 0)])
        self.assertIsNone(alike(SETUP, (EAGER, READY), (UNFAIR, READY)))

    def test_all_pairs(self):
        lengths = []
        for setup, rule, other in SMALL + GREATER:
            expected = first_row(
                comers_of(setup), BOTH, lambda state, comers: pair_beat(setup, rule, other, state, comers),
                lambda bills: bills[0] != bills[1],
            )
            self.assertEqual(alike(setup, rule, other), expected)
            lengths.append(None if expected is None else len(expected))
        self.assertLessEqual({None, 1, 2}, set(lengths))

    def test_all_short_rows(self):
        for setup, rule, other in SMALL:
            for row in short_rows(setup):
                if run(setup, rule[0], row, rule[1])[1] != run(setup, other[0], row, other[1])[1]:
                    self.assertEqual(alike(setup, rule, other), row)
                    break

    def test_rules_that_differ_only_unseen(self):
        idle = (2, ANY, ANY, ANY, ANY, "go", 0)
        self.assertIsNone(alike(SETUP, RULE, ((*RULE[0], idle), RULE[1])))


class Gaps(unittest.TestCase):
    def test_by_hand(self):
        self.assertIsNone(greatest_gap(SETUP, RULE, (EAGER, READY)))
        self.assertIsNone(gap_row(SETUP, RULE, (EAGER, READY)))
        self.assertEqual(greatest_gap(SETUP, RULE, RULE), 0)
        self.assertEqual(gap_row(setup=SETUP, rule=RULE, other=RULE), [])
        self.assertEqual(mean_gap(setup=SETUP, rule=RULE, other=RULE), (0, 1))

    def test_all_rings_and_walks_of_small_webs(self):
        gaps = []
        for setup, rule, other in SMALL:
            web = plain_gap_web(setup, rule, other)
            most = max(means(web))
            self.assertEqual(mean_gap(setup, rule, other), pair(most))
            if most > 0:
                self.assertIsNone(greatest_gap(setup, rule, other))
                self.assertIsNone(gap_row(setup, rule, other))
                gaps.append(None)
                continue
            limit = len(web) - 1 if len(comers_of(setup)) == 2 else min(len(web) - 1, 5)
            sums = [(len(indexes), found) for indexes, _, found in walks_up_to(web, limit)]
            best = max(found for _, found in sums)
            gap = greatest_gap(setup, rule, other)
            gaps.append(gap)
            self.assertGreaterEqual(gap, best)
            row = gap_row(setup, rule, other)
            self.assertEqual(total(setup, rule, row) - total(setup, other, row), gap)
            if limit == len(web) - 1:
                self.assertEqual(gap, best)
            if gap == best:
                self.assertEqual(len(row), min(length for length, found in sums if found == best))
        self.assertLessEqual({None, 0, 1}, set(gaps))
        self.assertGreater(max(gap for gap in gaps if gap is not None), 3)

    def test_papers_show_them(self):
        kinds = set()
        for setup, rule, other in SMALL + GREATER:
            gap = greatest_gap(setup, rule, other)
            kinds.add(gap is None)
            paper = gap_paper(setup, rule, other)
            if gap is None:
                self.assertIsNone(paper)
                self.assertGreater(mean_gap(setup, rule, other)[0], 0)
                continue
            self.assertLessEqual(mean_gap(setup, rule, other)[0], 0)
            self.assertEqual([entry[:2] for entry in paper], pairs_met(setup, rule, other))
            self.assertEqual(paper[0], (START, START, gap))
            self.assertIs(plain_paper_holds(setup, rule, other, gap, paper), True)
            row = gap_row(setup, rule, other)
            self.assertEqual(total(setup, rule, row) - total(setup, other, row), gap)
        self.assertEqual(kinds, {True, False})

    def test_too_many(self):
        for asked in [alike, greatest_gap, gap_row, mean_gap, gap_paper]:
            asked(*PAIRS_600)
            with self.assertRaises(TooMany):
                asked(*PAIRS_601)
            for case in [MEET_601, MEET_MORE]:
                for rules in [(case[1], case[1]), (case[1], ((), ())), (((), ()), case[1])]:
                    with self.assertRaises(TooMany):
                        asked(case[0], *rules)
            asked(*MEET_600, MEET_600[1])
        self.assertEqual(len(pairs_met(*PAIRS_600)), 600)
        self.assertEqual(len(pairs_met(*PAIRS_601)), 601)

    def test_errors(self):
        for asked, further in [(alike, []), (greatest_gap, []), (gap_row, []), (mean_gap, []), (gap_paper, []),
                               (gap_paper_holds, [0, None])]:
            nothing = [None for _ in further]
            for thing in NO_SETUPS:
                with self.subTest(thing=str(thing)), self.assertRaises(BadSetup):
                    asked(thing, None, None, *nothing)
            for thing in NO_RULES:
                with self.subTest(thing=str(thing)), self.assertRaises(BadRule):
                    asked(SETUP, thing, None, *nothing)
                with self.subTest(thing=str(thing)), self.assertRaises(BadRule):
                    asked(SETUP, thing, RULE, *further)
                with self.assertRaises(BadRule):
                    asked(SETUP, RULE, thing, *further)
                with self.assertRaises(BadRule):
                    asked(MEET_MORE[0], MEET_MORE[1], thing, *further)


def plain_paper_holds(setup, rule, other, most, paper):
    numbers = {(first, second): number for first, second, number in paper}
    if len(numbers) < len(paper) or numbers.get(BOTH, most + 1) > most or min(numbers.values()) < 0:
        return False
    if not set(numbers) <= set(pairs_met(setup, rule, other)):
        return False
    for place, number in numbers.items():
        for comers in comers_of(setup):
            after, bills = pair_beat(setup, rule, other, place, comers)
            more = plain_count(setup, "cost", bills[0]) - plain_count(setup, "cost", bills[1])
            if after not in numbers or more + numbers[after] > number:
                return False
    return True


class Papers(unittest.TestCase):
    def test_changed_papers(self):
        held = [0, 0]
        for setup, rule, other in [case for case in SMALL if greatest_gap(*case) is not None]:
            paper = gap_paper(setup, rule, other)
            gap = greatest_gap(setup, rule, other)
            for changed in changed_papers(paper):
                for most in [gap, gap + 1, gap - 1]:
                    expected = plain_paper_holds(setup, rule, other, most, changed)
                    held[expected] += 1
                    self.assertIs(gap_paper_holds(setup, rule, other, most, changed), expected)
        self.assertGreater(min(held), 200)

    def test_other_objects(self):
        other = (EAGER, READY)
        paper = gap_paper(SETUP, other, RULE)
        self.assertIs(gap_paper_holds(setup=SETUP, rule=other, other=RULE, most=9, thing=paper), True)
        self.assertIs(gap_paper_holds(SETUP, other, RULE, 9, paper[::-1]), True)
        first = paper[0]
        entries = [
            None, True, 0, (), first[:2], first + (0,), list(first), (first[0], first[1], None), (*first[:2], True),
            (*first[:2], False), (*first[:2], "0"), (*first[:2], -1), (None, None, 0), ({}, first[1], 0),
            (list(first[0]), first[1], 0), (((), False, (), (0, 0)), first[1], 0), (first[1], ((), 0, (), (0, 1)), 0),
            (((1,), 0, (), (0, 0)), first[1], 0), (first[0], ([], 0, (), (0, 0)), 0), ("", "", 0),
        ]
        for entry in entries:
            with self.subTest(entry=str(entry)):
                self.assertIs(gap_paper_holds(SETUP, other, RULE, 99, paper + [entry]), False)
                self.assertIs(gap_paper_holds(SETUP, other, RULE, 99, [entry] + paper[1:]), False)
        for thing in [*NO_THINGS, tuple(paper), dict(enumerate(paper)), paper + paper[:1], paper[1:], paper[:-1]]:
            with self.subTest(thing=str(thing)):
                self.assertIs(gap_paper_holds(SETUP, other, RULE, 99, thing), False)

    def test_too_many_ahead_of_the_paper(self):
        for thing in [None, []]:
            with self.assertRaises(TooMany):
                gap_paper_holds(*PAIRS_601, 0, thing)
            self.assertIs(gap_paper_holds(*PAIRS_600, 0, thing), False)


def changed_papers(paper):
    yield paper
    yield paper[::-1]
    yield [(first, second, number + 3) for first, second, number in paper]
    yield paper + paper[-1:]
    for place, (first, second, number) in enumerate(paper):
        yield paper[:place] + paper[place + 1:]
        for step in [-1, 1, 4]:
            yield paper[:place] + [(first, second, number + step)] + paper[place + 1:]


class Harm(unittest.TestCase):
    def test_by_hand(self):
        # by nobody sitting nobody is unserved and nothing melts
        self.assertEqual(harm(SETUP, SAVING, (), EAGER), (0, 0))
        self.assertEqual(harm(setup=SETUP, tubs=SAVING, seats=EAGER, other=()), (None, None))
        self.assertIs(never_harms(SETUP, SAVING, (), EAGER), True)
        self.assertIs(never_harms(setup=SETUP, tubs=SAVING, seats=EAGER, other=()), False)
        self.assertEqual(harm(SETUP, (), EAGER, ()), (None, 0))
        self.assertIs(never_harms(SETUP, (), EAGER, ()), False)

    def test_two_plain_houses(self):
        found = []
        for setup, rule, other in SMALL + GREATER:
            tubs = rule[1]
            rules = (rule[0], tubs), (other[0], tubs)
            if len(pairs_met(setup, *rules, most=40)) > 40:
                continue
            expected = []
            for what in ["unserved", "melted"]:
                web = plain_gap_web(setup, *rules, what)
                expected.append(plain_most(web))
            self.assertEqual(harm(setup, tubs, rule[0], other[0]), tuple(expected))
            self.assertIs(never_harms(setup, tubs, rule[0], other[0]), expected == [0, 0])
            found += expected
        self.assertLessEqual({None, 0, 1, 2}, set(found))

    def test_errors(self):
        for asked in [harm, never_harms]:
            for thing in NO_SETUPS:
                with self.assertRaises(BadSetup):
                    asked(thing, None, None, None)
            for thing in NO_TUBS:
                with self.subTest(thing=str(thing)), self.assertRaises(BadTubs):
                    asked(SETUP, thing, None, None)
            for thing in NO_SEATS:
                with self.subTest(thing=str(thing)), self.assertRaises(BadSeats):
                    asked(SETUP, SAVING, thing, None)
                with self.subTest(thing=str(thing)), self.assertRaises(BadSeats):
                    asked(SETUP, SAVING, thing, EAGER)
                with self.assertRaises(BadSeats):
                    asked(SETUP, SAVING, EAGER, thing)
            setup, (seats, tubs) = MEET_MORE
            with self.assertRaises(TooMany):
                asked(setup, tubs, seats, ())
            with self.assertRaises(TooMany):
                asked(setup, tubs, (), seats)
            with self.assertRaises(BadSeats):
                asked(setup, tubs, seats, None)


def plain_most(web):
    """The greatest sum of a walk, None if there is none greatest: by sums that still grow."""
    sums = [0] * len(web)
    for _ in range(2 * len(web) + 1):
        after = [max([0] + [weight + sums[target] for weight, target in moves]) for moves in web]
        if after == sums:
            return sums[0]
        sums = after
    return None


class Listening(unittest.TestCase):
    def test_deafened(self):
        rule = (((1, (1, 2), (3, 4), (5, 6), (7, 8), "go", 2),), ((2, (1, 2), (3, 4), (5, 6), (7, 8), "rest", 1),) * 2)
        deaf = (((1, (1, 2), (3, 4), (5, 6), ANY, "go", 2),), ((2, (1, 2), (3, 4), (5, 6), ANY, "rest", 1),) * 2)
        self.assertEqual(deafened(rule), deaf)
        self.assertEqual(deafened(rule=deaf), deaf)
        self.assertEqual(deafened(((), ())), ((), ()))
        for thing in NO_RULES:
            with self.subTest(thing=str(thing)), self.assertRaises(BadRule):
                deafened(thing)

    def test_by_hand(self):
        self.assertEqual(listens(SETUP, RULE), (None, None))
        # no portion is open at the first beat; the deaf tubs are opened for nobody
        self.assertEqual(listens(setup=SETUP, rule=BOTH_HEAR), ([((1,), 0)], [((), 0)]))
        self.assertEqual(listens(SETUP, (HEARING, ())), ([((1,), 0)], None))
        # at the third beat two wait, the first tubs have melted, and no other ones are opened
        self.assertEqual(listens(SETUP, ((), HEARING_TUBS)), (None, [((), 0), ((1,), 0), ((1,), 0)]))

    def test_two_plain_houses(self):
        lengths = set()
        for setup, rule in HOUSES + some_houses(434, 40):
            seats, tubs = rule
            expected = []
            others = [
                (tuple(row[:4] + (ANY,) + row[5:] for row in seats), tubs),
                (seats, tuple(row[:4] + (ANY,) + row[5:] for row in tubs)),
            ]
            if max(len(pairs_met(setup, rule, other, most=100)) for other in others) > 100:
                continue
            for other in others:
                expected.append(first_row(
                    comers_of(setup), BOTH, lambda state, comers: pair_beat(setup, rule, other, state, comers),
                    lambda bills: bills[0] != bills[1],
                ))
            self.assertEqual(listens(setup, rule), tuple(expected))
            lengths |= {None if row is None else len(row) for row in expected}
        self.assertLessEqual({None, 1, 2}, lengths)

    def test_errors(self):
        for thing in NO_SETUPS:
            with self.assertRaises(BadSetup):
                listens(thing, None)
        for thing in NO_RULES:
            with self.subTest(thing=str(thing)), self.assertRaises(BadRule):
                listens(SETUP, thing)
        for case in [MEET_601, MEET_MORE]:
            with self.assertRaises(TooMany):
                listens(*case)


def plain_growth(setup, rule):
    """The greatest growth by one more single, None if there is none greatest; and for how long it is felt."""
    starts = single_pairs(setup, rule, met_house(setup, rule))
    places = pairs_met(setup, rule, rule, firsts=tuple(place for place, _ in starts))
    web = plain_web(
        places, lambda place: [pair_beat(setup, rule, rule, place, comers) for comers in comers_of(setup)],
        lambda bills: plain_count(setup, "cost", bills[1]) - plain_count(setup, "cost", bills[0]),
    )
    rests = [0] * len(web)
    for _ in range(2 * len(web) + 1):
        rests = [max([0] + [weight + rests[target] for weight, target in moves]) for moves in web]
    settled = rests == [max([0] + [weight + rests[target] for weight, target in moves]) for moves in web]
    growth = max(gain + rests[places.index(place)] for place, gain in starts)
    layer, felt = {place for place, _ in starts if place[0] != place[1]}, -1
    while layer and felt <= len(places):
        felt += 1
        layer = {pair_beat(setup, rule, rule, place, comers)[0] for place in layer for comers in comers_of(setup)}
        layer = {place for place in layer if place[0] != place[1]}
    return growth if settled else None, None if layer else felt, len(places)


class OneMore(unittest.TestCase):
    def test_by_hand(self):
        # nobody sits: one more waits, or is away
        setup = changed_at(DEAR, (6,), (0, 0, 0, 3))
        self.assertEqual(one_more(setup, ((), ())), 3)
        row, place = one_more_row(setup, ((), ()))
        self.assertIn((row, place), [([((), 0), ((), 1)], 0), ([((), 1), ((), 0)], 1)])
        self.assertIsNone(felt_for(setup, ((), ())))
        # who comes sits at once, gets a portion of what would melt, and so costs less
        setup = (2, (1,), (1, 1), (1, 1), (2,), 1, (0, 4, 1, 1))
        rule = (EAGER, ((0, ANY, (0, 0), ANY, ANY, "small", 0),))
        self.assertEqual(one_more(setup=setup, rule=rule), -4)
        self.assertEqual(one_more_row(setup=setup, rule=rule), ([((), 0)], 0))
        self.assertEqual(felt_for(setup=setup, rule=rule), -1)

    def test_without_end(self):
        setup = changed_at(DEAR, (6,), (5, 0, 0, 0))
        self.assertIsNone(one_more(setup, ((), ())))
        row, place = one_more_row(setup, ((), ()))
        self.assertEqual((row, place), ([((), 0)], 0))
        setup = changed_at(DEAR, (6,), (2, 0, 0, 0))
        row, place = one_more_row(setup, ((), ()))
        self.assertEqual((len(row), place), (3, 0))
        self.assertEqual(growths(setup, ((), ()), row)[0], (0, 12))

    def test_no_single_may_come(self):
        for asked in [one_more, one_more_row, felt_for]:
            self.assertIsNone(asked(SETUP, RULE))
            # there are no pairs then, however many standings
            self.assertIsNone(asked(changed_at(MANY, (3,), (1, 0)), MEET_MORE[1]))

    def test_plain_twins(self):
        found = []
        for setup, rule in SINGLES + FAR + [case for case in some_houses(435, 60) if case[0][3][1]]:
            if len(met_house(setup, rule, 60)) > 60:
                continue
            growth, felt, count = plain_growth(setup, rule)
            if count > 200:
                continue
            self.assertEqual(one_more(setup, rule), growth)
            self.assertEqual(felt_for(setup, rule), felt)
            row, place = one_more_row(setup, rule)
            found.append((growth is None, felt))
            places = [at for at, gain in growths(setup, rule, row) if (gain >= 10 if growth is None else gain == growth)]
            self.assertEqual(place, places[0])
        self.assertLessEqual({(True, None), (False, None), (False, -1), (False, 0), (False, 1)}, set(found))

    def test_all_short_rows(self):
        for setup, rule in SINGLES + FAR:
            growth = one_more(setup, rule)
            row, place = one_more_row(setup, rule)
            self.assertTrue(row)
            for other in short_rows(setup):
                gains = growths(setup, rule, other)
                if growth is not None:
                    self.assertLessEqual(max([gain for _, gain in gains], default=growth), growth)
                hits = [at for at, gain in gains if (gain >= 10 if growth is None else gain == growth)]
                if hits:
                    # a shorter row with such a growth would have been found
                    self.assertEqual(len(row), len(other))
                    break
            else:
                self.assertGreater(len(row), len(short_rows(setup)[-1]))

    def test_felt_by_all_short_rows(self):
        for setup, rule in SINGLES[:30]:
            felt = felt_for(setup, rule)
            for row in some_rows(3, setup, 20, 12):
                for place, (_, singles) in enumerate(row):
                    if singles < setup[3][1]:
                        more = with_one_more(row, place)
                        for end in range(place, len(row)):
                            first, _ = run(setup, rule[0], row[:end + 1], rule[1])
                            second, _ = run(setup, rule[0], more[:end + 1], rule[1])
                            if first.standing() != second.standing():
                                self.assertTrue(felt is None or end - place <= felt)

    def test_too_many(self):
        for asked in [one_more, one_more_row, felt_for]:
            asked(*TWINS_600)
            for case in [TWINS_601, MEET_MORE, MEET_601]:
                with self.assertRaises(TooMany):
                    asked(*case)
        for (setup, rule), count in [(TWINS_600, 600), (TWINS_601, 601)]:
            firsts = tuple(dict.fromkeys(place for place, _ in single_pairs(setup, rule, met_house(setup, rule))))
            self.assertEqual(len(pairs_met(setup, rule, rule, firsts=firsts)), count)

    def test_errors(self):
        for asked in [one_more, one_more_row, felt_for]:
            for thing in NO_SETUPS:
                with self.assertRaises(BadSetup):
                    asked(thing, None)
            for thing in NO_RULES:
                for setup in [SETUP, GREAT]:
                    with self.subTest(thing=str(thing)), self.assertRaises(BadRule):
                        asked(setup, thing)


if __name__ == "__main__":
    unittest.main()
