import itertools
import unittest
from fractions import Fraction

from parlourday.corners import ring_corners
from parlourday.errors import BadCount, BadFraction, BadRule, BadSetup, BadWhat, TooMany
from parlourday.house import house_after, house_met, house_web, totals_of
from parlourday.longrun import (
    long_from, long_mean, long_paper, long_paper_holds, long_ring, long_ring_holds, mean_corners, most_after, most_row,
)
from parlourday.numbers import bear_numbers, cap_numbers
from parlourday.rings import mean_least, mean_most

from tests.plain_house import (
    BOTH_HEAR, MEET_120, MEET_121, MEET_601, NO_RULES, NO_WORDS, RULE, START, WORDS, met_house, plain_corners,
    plain_count, plain_house_web, ring_means, small_houses, some_houses,
)
from tests.plain_parlour import (
    EAGER, GREAT, NO_SETUPS, NO_THINGS, SETUP, changed_at, comers_of, house_beat, rows_of, run, some_rows,
)
from tests.plain_search import NO_COUNTS, NO_FRACTIONS, means, met, pair, small_webs
from tests.plain_tubs import READY, SAVING

SMALL = small_houses(181, 60)
FEW = [case for case in some_houses(182, 80) if len(met_house(*case, 121)) <= 120]
FEW += [(SETUP, RULE), (SETUP, BOTH_HEAR), (GREAT, (EAGER, READY)), (GREAT, (EAGER, SAVING))]
BOTH = [False, True]


def word_of(place):
    return WORDS[place % 7]


class Means(unittest.TestCase):
    def test_the_example(self):
        self.assertEqual(long_mean(SETUP, RULE, "melted"), (1, 2))
        self.assertEqual(long_mean(setup=SETUP, rule=RULE, what="melted", least=True), (0, 1))
        self.assertEqual(long_mean(SETUP, RULE, "empty"), (0, 1))
        self.assertEqual(long_mean(SETUP, RULE, "seated"), (2, 1))
        self.assertIs(long_ring_holds(SETUP, RULE, "melted", (1, 3), ([], [((1,), 0), ((), 0), ((), 0)])), True)
        self.assertIs(long_ring_holds(SETUP, RULE, "melted", (1, 2), ([], [((1,), 0), ((), 0)])), True)
        with self.assertRaises(TypeError):
            long_mean(SETUP, RULE, "melted", True)

    def test_all_rings_of_small_houses(self):
        lengths = set()
        for setup, rule in SMALL:
            for what in WORDS:
                found = means(plain_house_web(setup, rule, what))
                self.assertEqual(long_mean(setup, rule, what), pair(max(found)))
                self.assertEqual(long_mean(setup, rule, what, least=True), pair(min(found)))
                lengths.add(max(found).denominator)
        self.assertGreaterEqual(max(lengths), 3)

    def test_rings_of_small_houses(self):
        for setup, rule in SMALL:
            for what in WORDS[:4] + WORDS[6:]:
                for least in BOTH:
                    ring = long_ring(setup, rule, what, least=least)
                    self.check_ring(setup, rule, what, long_mean(setup, rule, what, least=least), ring)

    def check_ring(self, setup, rule, what, mean, ring):
        ahead, again = ring
        self.assertTrue(isinstance(ring, tuple) and isinstance(ahead, list) and isinstance(again, list))
        self.assertLessEqual(max(len(ahead), len(again)), 120)
        self.assertIs(plain_ring_holds(setup, rule, what, mean, ring), True)
        self.assertIs(long_ring_holds(setup, rule, what, mean, ring), True)

    def test_rings_and_papers_of_all_houses(self):
        # a ring has the mean, and a paper shows that none has more
        for place, (setup, rule) in enumerate([*FEW, MEET_120]):
            for what in [word_of(place), word_of(place + 3), "cost"]:
                for least in BOTH:
                    mean = long_mean(setup, rule, what, least=least)
                    self.check_ring(setup, rule, what, mean, long_ring(setup, rule, what, least=least))
                    paper = long_paper(setup, rule, what, least=least)
                    self.assertIs(plain_paper_holds(setup, rule, what, mean, paper, least), True)
                    self.assertIs(long_paper_holds(setup, rule, what, mean, paper, least=least), True)

    def test_too_many(self):
        for case in [MEET_121, MEET_601]:
            asked = [
                (long_mean, []), (long_ring, []), (long_ring_holds, [(1, 2), ([], [((), 0)])]), (long_paper, []),
                (long_paper_holds, [(1, 2), []]), (most_after, [0]), (most_row, [0]), (long_from, []),
                (mean_corners, ["cost"]), (long_ring_holds, [(1, 2), None]), (long_paper_holds, [(1, 2), None]),
            ]
            for function, further in asked:
                with self.subTest(function=function.__name__), self.assertRaises(TooMany):
                    function(*case, "cost", *further)
                function(*MEET_120, "cost", *further)


def plain_ring_holds(setup, rule, what, fraction, ring):
    ahead, again = ring
    first, _ = run(setup, rule[0], ahead, rule[1])
    last, bills = run(setup, rule[0], ahead + again, rule[1])
    total = sum(plain_count(setup, what, bill) for bill in bills[len(ahead):])
    same = first.standing() == last.standing()
    return len(again) > 0 and same and total * fraction[1] == fraction[0] * len(again)


def plain_paper_holds(setup, rule, what, fraction, paper, least):
    above, below = fraction
    numbers = dict(paper)
    if len(numbers) < len(paper) or sorted(numbers) != met_house(setup, rule):
        return False
    for place, number in paper:
        for comers in comers_of(setup):
            after, bill = house_beat(setup, rule, place, comers)
            over = below * plain_count(setup, what, bill) - above + numbers[after] - number
            if over < 0 if least else over > 0:
                return False
    return True


class Rings(unittest.TestCase):
    def test_changed_rings(self):
        held = [0, 0]
        for place, (setup, rule) in enumerate(SMALL):
            what = word_of(place)
            for least in BOTH:
                mean = long_mean(setup, rule, what, least=least)
                for ring in changed_rings(setup, long_ring(setup, rule, what, least=least)):
                    expected = plain_ring_holds(setup, rule, what, mean, ring)
                    held[expected] += 1
                    self.assertIs(long_ring_holds(setup, rule, what, mean, ring), expected)
        self.assertGreater(min(held), 100)

    def test_fractions_as_they_are_passed(self):
        ring = long_ring(SETUP, RULE, "melted")
        self.assertIs(long_ring_holds(SETUP, RULE, "melted", (2, 4), ring), True)
        self.assertIs(long_ring_holds(SETUP, RULE, "melted", (2, 3), ring), False)
        self.assertIs(long_ring_holds(setup=SETUP, rule=RULE, what="served", fraction=(0, 7), thing=([], [((), 0)])), True)

    def test_long_rings(self):
        nobody = [((), 0)]
        for count, expected in [(9999, True), (10000, True), (10001, False)]:
            self.assertIs(long_ring_holds(SETUP, RULE, "cost", (0, 1), ([], nobody * count)), expected)
            self.assertIs(long_ring_holds(SETUP, RULE, "cost", (0, 1), (nobody * count, nobody)), expected)

    def test_other_objects(self):
        nobody = [((), 0)]
        things = NO_THINGS + [
            [nobody, nobody], (nobody,), (nobody, nobody, nobody), (tuple(nobody), nobody), (nobody, tuple(nobody)),
            (nobody, []), ([], []), (None, nobody), (nobody, None), ([None], nobody), (nobody, [None]), (nobody, [0]),
            ([((), False)], nobody), (nobody, [((), False)]), (nobody, [((True,), 0)]), (nobody, [((3,), 0)]),
            (nobody, [((), 1)]), (nobody, [[(), 0]]), (nobody, [([], 0)]), (nobody, [((1, 1), 0)]), ("", nobody),
        ]
        for thing in things:
            with self.subTest(thing=str(thing)):
                self.assertIs(long_ring_holds(SETUP, RULE, "cost", (0, 1), thing), False)


def changed_rings(setup, ring):
    ahead, again = ring
    yield (ahead + again, again)
    yield (ahead, again * 3)
    yield (ahead, again[1:] + again[:1])
    yield (ahead + again[:1], again[1:] + again[:1])
    yield (ahead, [])
    for row, place in [(row, place) for row in (0, 1) for place in range(len(ring[row]))]:
        for comers in [[], *[[comers] for comers in comers_of(setup)]]:
            changed = ring[row][:place] + comers + ring[row][place + 1:]
            yield (changed, again) if row == 0 else (ahead, changed)


class Papers(unittest.TestCase):
    def test_by_hand(self):
        other = ((), 0, ((1, 1),), (0, 0))
        self.assertEqual(long_paper(SETUP, RULE, "melted"), [(START, 0), (other, 1)])
        self.assertEqual(long_paper(setup=SETUP, rule=RULE, what="melted", least=True), [(START, 0), (other, 0)])
        paper = [(other, 1), (START, 0)]
        self.assertIs(long_paper_holds(setup=SETUP, rule=RULE, what="melted", fraction=(1, 2), thing=paper), True)
        self.assertIs(long_paper_holds(SETUP, RULE, "melted", (2, 4), paper), False)
        self.assertIs(long_paper_holds(SETUP, RULE, "melted", (2, 4), [(other, 2), (START, 0)]), True)
        self.assertIs(long_paper_holds(SETUP, RULE, "melted", (0, 1), [(START, 3), (other, 3)], least=True), True)
        self.assertIs(long_paper_holds(SETUP, RULE, "melted", (0, 1), [(START, 3), (other, 3)]), False)

    def test_they_have_the_numbers_of_the_web(self):
        for place, (setup, rule) in enumerate(FEW + SMALL):
            web = house_web(setup, rule, word_of(place))
            met = house_met(setup, rule)
            self.assertEqual(long_paper(setup, rule, word_of(place)), list(zip(met, cap_numbers(web))))
            self.assertEqual(long_paper(setup, rule, word_of(place), least=True), list(zip(met, bear_numbers(web))))

    def test_changed_papers(self):
        held = [0, 0]
        for place, (setup, rule) in enumerate(SMALL):
            what = word_of(place)
            for least in BOTH:
                mean = long_mean(setup, rule, what, least=least)
                for paper in changed_papers(long_paper(setup, rule, what, least=least)):
                    for fraction in [mean, (mean[0] * 2, mean[1] * 2), (mean[0] + 1, mean[1])]:
                        expected = plain_paper_holds(setup, rule, what, fraction, paper, least)
                        held[expected] += 1
                        self.assertIs(long_paper_holds(setup, rule, what, fraction, paper, least=least), expected)
        self.assertGreater(min(held), 100)

    def test_other_objects(self):
        paper = long_paper(SETUP, RULE, "melted")
        first, second = paper
        entries = [
            None, True, 0, (), (START,), (START, 0, 0), [START, 0], (START, None), (START, True), (START, False),
            (START, "0"), (list(START), 0), (((), False, (), (0, 0)), 0), (((), 0, (), (0, False)), 0),
            (([], 0, (), (0, 0)), 0), (((), 0, [], (0, 0)), 0), (((), 0, (), [0, 0]), 0), (((), 0, (), (0, 1)), 0),
            (((1,), 0, (), (0, 0)), 0), (((), 0, ((1, 2),), (0, 0)), 0), (((), 0, ((True, 1),), (0, 0)), 0),
            (None, 0), ({}, 0), (START[:3], 0), ("", 0), (second[0], 0),
        ]
        self.assertIs(long_paper_holds(SETUP, RULE, "melted", (5, 1), paper), True)
        for entry in entries:
            with self.subTest(entry=str(entry)):
                self.assertIs(long_paper_holds(SETUP, RULE, "melted", (5, 1), [entry, second]), False)
                self.assertIs(long_paper_holds(SETUP, RULE, "melted", (5, 1), [second, entry]), False)
        for thing in [*NO_THINGS, tuple(paper), dict(paper), [first], [second], paper + paper, paper + [first]]:
            with self.subTest(thing=str(thing)):
                self.assertIs(long_paper_holds(SETUP, RULE, "melted", (5, 1), thing), False)
        self.assertIs(long_paper_holds(SETUP, RULE, "melted", (5, 1), [second, first]), True)


def changed_papers(paper):
    yield paper
    yield paper[::-1]
    yield paper + paper[:1]
    for place, (standing, number) in enumerate(paper):
        yield paper[:place] + paper[place + 1:]
        for step in [-2, -1, 1, 2]:
            yield paper[:place] + [(standing, number + step)] + paper[place + 1:]


class Most(unittest.TestCase):
    def test_by_hand(self):
        self.assertEqual(most_after(SETUP, RULE, "melted", 0), 0)
        self.assertEqual(most_row(SETUP, RULE, "melted", 0), [])
        self.assertEqual(most_after(SETUP, RULE, "melted", 4), 2)
        self.assertEqual(most_row(SETUP, RULE, "melted", 4), [((1,), 0), ((), 0), ((1,), 0), ((), 0)])
        self.assertEqual(most_row(SETUP, RULE, "melted", 3), [((), 0), ((1,), 0), ((), 0)])
        self.assertEqual(most_after(setup=SETUP, rule=RULE, what="served", beats=5, least=True), 0)
        self.assertEqual(most_row(setup=SETUP, rule=RULE, what="served", beats=2, least=True), [((), 0)] * 2)
        self.assertEqual(most_row(SETUP, RULE, "served", 2), [((2,), 0)] * 2)

    def test_all_short_rows(self):
        for place, (setup, rule) in enumerate(SMALL + FEW):
            beats = [1, 2, 3][place % 3] if len(comers_of(setup)) > 4 else [2, 3, 4][place % 3]
            if len(comers_of(setup)) > 6:
                beats = min(beats, 2)
            for what in [word_of(place), word_of(place + 4), "cost"]:
                sums = {}
                for row in rows_of(setup, beats):
                    total = sum(plain_count(setup, what, bill) for bill in run(setup, rule[0], row, rule[1])[1])
                    sums.setdefault(total, row)
                for least, best in [(False, max(sums)), (True, min(sums))]:
                    self.assertEqual(most_after(setup, rule, what, beats, least=least), best)
                    self.assertEqual(most_row(setup, rule, what, beats, least=least), sums[best])

    def test_thirty_beats(self):
        for place, (setup, rule) in enumerate([*FEW, MEET_120]):
            what = word_of(place)
            for least in BOTH:
                most = most_after(setup, rule, what, 30, least=least)
                row = most_row(setup, rule, what, 30, least=least)
                self.assertEqual(len(row), 30)
                self.assertEqual(totals_of(setup, rule, row)[WORDS.index(what)], most)
                for other in some_rows(place, setup, 5, 30):
                    total = totals_of(setup, rule, other)[WORDS.index(what)]
                    self.assertTrue(total >= most if least else total <= most)
                self.assertEqual(most, plain_most(setup, rule, what, 30, least))

    def test_errors(self):
        for asked in [most_after, most_row]:
            for thing in [*NO_COUNTS, 31]:
                for case in [(SETUP, RULE), MEET_121]:
                    with self.subTest(thing=str(thing)), self.assertRaises(BadCount):
                        asked(*case, "cost", thing)


def plain_most(setup, rule, what, beats, least):
    web = plain_house_web(setup, rule, what)
    sums = {0: 0}
    choose = min if least else max
    for _ in range(beats):
        further = {}
        for node, total in sums.items():
            for weight, target in web[node]:
                further.setdefault(target, []).append(total + weight)
        sums = {node: choose(found) for node, found in further.items()}
    return choose(sums.values())


class From(unittest.TestCase):
    def test_by_hand(self):
        other = ((), 0, ((1, 1),), (0, 0))
        self.assertEqual(long_from(SETUP, RULE, "melted"), [(START, (1, 2)), (other, (1, 2))])
        self.assertEqual(long_from(setup=SETUP, rule=RULE, what="melted", least=True), [(START, (0, 1)), (other, (0, 1))])

    def test_all_rings_from_each_standing(self):
        unlike = 0
        for place, (setup, rule) in enumerate(SMALL):
            for what in [word_of(place), "cost", "empty"]:
                web = plain_house_web(setup, rule, what)
                found = [means(web, node) for node in range(len(web))]
                places = met_house(setup, rule)
                greatest = [(standing, pair(max(rings))) for standing, rings in zip(places, found)]
                unlike += len({mean for _, mean in greatest}) > 1
                self.assertEqual(long_from(setup, rule, what), greatest)
                self.assertEqual(
                    long_from(setup, rule, what, least=True),
                    [(standing, pair(min(rings))) for standing, rings in zip(places, found)],
                )
        self.assertGreater(unlike, 2)

    def test_the_first_standing_has_the_mean(self):
        for place, (setup, rule) in enumerate([*FEW, MEET_120]):
            for least in BOTH:
                found = long_from(setup, rule, word_of(place), least=least)
                self.assertEqual([standing for standing, _ in found], house_met(setup, rule))
                self.assertEqual(found[0], (START, long_mean(setup, rule, word_of(place), least=least)))


class Corners(unittest.TestCase):
    def test_by_hand(self):
        self.assertEqual(mean_corners(SETUP, RULE, "empty", "away"), [((0, 1), (0, 1))])
        self.assertEqual(mean_corners(SETUP, RULE, "seated", "seated"), [((0, 1), (0, 1)), ((2, 1), (2, 1))])
        found = mean_corners(setup=SETUP, rule=RULE, what="melted", other="served")
        self.assertEqual(found, [((0, 1), (0, 1)), ((1, 2), (1, 2)), ((0, 1), (2, 1))])
        web, beside = plain_house_web(SETUP, RULE, "melted"), plain_house_web(SETUP, RULE, "served")
        self.assertEqual(as_fractions(found), plain_corners(ring_means(web, beside)))

    def test_all_rings_of_small_houses(self):
        counts = []
        for place, (setup, rule) in enumerate(SMALL):
            others = [("cost", "seated"), ("melted", "unserved"), ("served", "cost")]
            for what, other in [(word_of(place), word_of(place + 2)), *others]:
                points = ring_means(plain_house_web(setup, rule, what), plain_house_web(setup, rule, other))
                found = mean_corners(setup, rule, what, other)
                self.assertEqual(as_fractions(found), plain_corners(points))
                self.assertEqual(found, [(pair(Fraction(*first)), pair(Fraction(*second))) for first, second in found])
                counts.append(len(found))
        self.assertLessEqual({1, 2, 3, 4}, set(counts))

    def test_all_rings_of_small_webs(self):
        counts = []
        for place, web in enumerate(small_webs(183, 400, nodes=6, moves=3, weight=9)):
            if len(met(web)) == len(web):
                steps = [[-3, 5, 1, 0], [2, -9, 4, 7]][place % 2]
                beside = tuple(
                    tuple((steps[(node + index + weight) % 4], target) for index, (weight, target) in enumerate(moves))
                    for node, moves in enumerate(web)
                )
                corners = as_fractions(ring_corners(web, beside))
                self.assertEqual(corners, plain_corners(ring_means(web, beside)))
                counts.append(len(corners))
        self.assertLessEqual({1, 2, 3, 4, 5, 6, 7}, set(counts))

    def test_greater_houses(self):
        for place, (setup, rule) in enumerate([*FEW, MEET_120]):
            what, other = word_of(place), word_of(place + 1 + place % 5)
            corners = as_fractions(mean_corners(setup, rule, what, other))
            web, beside = house_web(setup, rule, what), house_web(setup, rule, other)
            for first, second in itertools.product([-7, -2, -1, 0, 1, 3], [-5, -1, 0, 1, 2]):
                far = tuple(
                    tuple((first * weight + second * twin, target) for (weight, target), (twin, _) in zip(moves, others))
                    for moves, others in zip(web, beside)
                )
                self.assertEqual(Fraction(*mean_most(far)), max(first * x + second * y for x, y in corners))
                self.assertEqual(Fraction(*mean_least(far)), min(first * x + second * y for x, y in corners))
            self.assertEqual(corners, plain_corners(corners))
            self.assertEqual(len(corners), len(set(corners)))

    def test_errors(self):
        for thing in NO_WORDS:
            for case in [(SETUP, RULE), MEET_121]:
                with self.subTest(thing=str(thing)), self.assertRaises(BadWhat):
                    mean_corners(*case, "cost", thing)


def as_fractions(corners):
    return [(Fraction(*first), Fraction(*second)) for first, second in corners]


class Errors(unittest.TestCase):
    def test_setup_rule_and_word(self):
        asked = [
            (long_mean, []), (long_ring, []), (long_ring_holds, [(1, 2), None]), (long_paper, []),
            (long_paper_holds, [(1, 2), None]), (most_after, [3]), (most_row, [3]), (long_from, []),
            (mean_corners, ["cost"]),
        ]
        for function, further in asked:
            nothing = [None for _ in further]
            for thing in NO_SETUPS:
                with self.subTest(function=function.__name__, thing=str(thing)), self.assertRaises(BadSetup):
                    function(thing, None, None, *nothing)
            for thing in NO_RULES:
                with self.subTest(function=function.__name__, thing=str(thing)), self.assertRaises(BadRule):
                    function(SETUP, thing, "cost", *further)
                with self.assertRaises(BadRule):
                    function(SETUP, thing, None, *nothing)
            for thing in NO_WORDS:
                with self.subTest(function=function.__name__, thing=str(thing)), self.assertRaises(BadWhat):
                    function(SETUP, RULE, thing, *further)
                with self.assertRaises(BadWhat):
                    function(*MEET_121, thing, *nothing)

    def test_fractions(self):
        for asked in [long_ring_holds, long_paper_holds]:
            for thing in NO_FRACTIONS:
                for case in [(SETUP, RULE), MEET_121]:
                    with self.subTest(thing=str(thing)), self.assertRaises(BadFraction):
                        asked(*case, "cost", thing, None)

    def test_a_ring_comes_back(self):
        for setup, rule in FEW[:20]:
            ahead, again = long_ring(setup, rule, "cost")
            self.assertEqual(house_after(setup, rule, ahead), house_after(setup, rule, ahead + again))
        self.assertEqual(long_mean(changed_at(SETUP, (6,), (0, 0, 0, 0)), RULE, "cost"), (0, 1))


if __name__ == "__main__":
    unittest.main()
