import unittest

from parlourday.boards import (
    board_paper, board_paper_holds, boards_counted, boards_of, comers_back, costs_back, first_sure, first_told,
    first_untold, next_boards, row_back, rows_counted, standings_back, standings_seen, told_apart,
)
from parlourday.errors import BadBoards, BadCount, BadRow, BadRule, BadSetup, TooMany

from tests.cases import (
    COUNTED_600, COUNTED_601, IN_ORDER, OF_TWO, SURE_599, SURE_601, TOLD_600, TOLD_651, TOLD_IN_ORDER, UNTOLD_600,
    UNTOLD_601,
)
from tests.plain_house import (
    MEET_120, MEET_600, MEET_601, MEET_MORE, NO_RULES, RULE, START, met_house, plain_count, small_houses, some_houses,
)
from tests.plain_pairs import sets_met, short_rows, some_pairs, total
from tests.plain_parlour import (
    ANY, EAGER, GREAT, NO_ROWS, NO_SETUPS, NO_THINGS, SETUP, UNFAIR, changed_at, comers_of, house_beat, rows_of, run,
    some_rows,
)
from tests.plain_search import NO_COUNTS
from tests.plain_tubs import READY, SAVING

SMALL = small_houses(481, 40) + IN_ORDER + OF_TWO
FEW = [case for case in some_houses(482, 60) if len(met_house(*case, 60)) <= 60] + [(SETUP, RULE)]
PAIRS = [case for case in some_pairs(483, 160) if max(len(met_house(case[0], rule, 30)) for rule in case[1:]) <= 30]
PAIRS += TOLD_IN_ORDER + [(SETUP, RULE, (EAGER, READY)), (SETUP, RULE, RULE), (GREAT, (EAGER, ()), (UNFAIR, ()))]
NO_BOARDS = [
    *[thing for thing in NO_THINGS if thing != []], ((0, 0, 0),), [None], [True], [[0, 0, 0]], [()], [(0, 0)],
    [(0, 0, 0, 0)], [(0, 0, 10)], [(0, -1, 0)], [(True, 0, 0)], [(0, False, 0)], [(0, 0, None)], [("0", 0, 0)],
    [(0, 0, 0)] * 31, [(0, 0, 0), None], ["000"], [(0, 0, (0,))],
]


def board(standing):
    line, singles, tubs, _ = standing
    return (len(line), singles, sum(portions for _, portions in tubs))


def plain_boards(setup, rule, row):
    return [board(run(setup, rule[0], row[:count], rule[1])[0].standing()) for count in range(1, len(row) + 1)]


def some_beats(setup):
    return {1: 6, 2: 5, 3: 4, 4: 3}.get(len(comers_of(setup)), 2)


def shown(setup, rule, beats):
    """For each list of boards that some row of so many beats shows, the rows."""
    found = {}
    for row in rows_of(setup, beats):
        found.setdefault(tuple(plain_boards(setup, rule, row)), []).append(row)
    return found


def told_board(setup, rule):
    memo = {}

    def told(standing):
        if standing not in memo:
            ends = [house_beat(setup, rule, standing, comers)[0] for comers in comers_of(setup)]
            memo[standing] = [(board(after), after) for after in ends]
        return memo[standing]

    return told


def shortest(lists):
    return min(lists, key=lambda words: (len(words), words)) if lists else None


class Back(unittest.TestCase):
    def test_by_hand(self):
        row = [((1,), 0), ((), 0), ((2,), 0)]
        boards = [(0, 0, 1), (0, 0, 0), (0, 0, 0)]
        self.assertEqual(boards_of(SETUP, RULE, row), boards)
        self.assertEqual(boards_of(setup=SETUP, rule=RULE, row=[]), [])
        self.assertEqual(standings_back(setup=SETUP, rule=RULE, boards=boards), [START])
        # one alone leaves a portion; then one or nobody comes, or two, of whom one is unserved
        self.assertEqual(row_back(setup=SETUP, rule=RULE, boards=boards), [((1,), 0), ((), 0), ((), 0)])
        self.assertEqual(rows_counted(setup=SETUP, rule=RULE, boards=boards), 1 * 3 * 2)
        self.assertEqual(next_boards(setup=SETUP, rule=RULE, boards=boards), [(0, 0, 0), (0, 0, 1)])
        self.assertEqual(costs_back(setup=SETUP, rule=RULE, boards=boards), (0, 2))
        self.assertEqual(
            comers_back(setup=SETUP, rule=RULE, boards=boards),
            [[((1,), 0)], [((), 0), ((1,), 0), ((2,), 0)], [((), 0), ((2,), 0)]],
        )
        self.assertEqual(standings_seen(setup=SETUP, rule=RULE, boards=[(0, 0, 1)]), [((), 0, ((1, 1),), (0, 0))])
        self.assertEqual(told_apart(setup=SETUP, rule=RULE, other=((), ()), boards=boards), (True, False))

    def test_no_boards(self):
        for setup, rule in SMALL + FEW:
            self.assertEqual(standings_back(setup, rule, []), [START])
            self.assertEqual(row_back(setup, rule, []), [])
            self.assertEqual(rows_counted(setup, rule, []), 1)
            self.assertEqual(costs_back(setup, rule, []), (0, 0))
            self.assertEqual(comers_back(setup, rule, []), [])
            self.assertEqual(standings_seen(setup, rule, []), met_house(setup, rule))
            self.assertEqual(next_boards(setup, rule, []), sorted({tuple(words)[0] for words in shown(setup, rule, 1)}))
            self.assertEqual(told_apart(setup, rule, ((), ()), []), (True, True))

    def test_all_rows_of_a_few_beats(self):
        for setup, rule in SMALL + FEW:
            beats = some_beats(setup)
            longer = shown(setup, rule, beats)
            for boards, rows in shown(setup, rule, beats - 1).items():
                self.check_back(setup, rule, list(boards), rows, sorted({
                    words[-1] for words in longer if words[:-1] == boards
                }))

    def check_back(self, setup, rule, boards, rows, further):
        ends = {run(setup, rule[0], row, rule[1])[0].standing() for row in rows}
        costs = [total(setup, rule, row) for row in rows]
        self.assertEqual(standings_back(setup, rule, boards), sorted(ends))
        self.assertEqual(row_back(setup, rule, boards), rows[0])
        self.assertEqual(rows_counted(setup, rule, boards), len(rows))
        self.assertEqual(costs_back(setup, rule, boards), (min(costs), max(costs)))
        self.assertEqual(
            comers_back(setup, rule, boards), [sorted({row[at] for row in rows}) for at in range(len(boards))]
        )
        self.assertEqual(next_boards(setup, rule, boards), further)
        self.assertEqual(boards_of(setup, rule, rows[-1]), boards)

    def test_boards_that_no_row_shows(self):
        for setup, rule in SMALL + FEW:
            lists = shown(setup, rule, 2)
            first = [words[0] for words in lists]
            for boards in [[(9, 9, 9)], [*list(lists)[0], (0, 0, 9)], [(0, 9, 0)] * 30, *[
                [one, two] for one in first[:3] for two in [(1, 0, 0), (0, 0, 2), (0, 1, 1)] if (one, two) not in lists
            ]]:
                self.assertEqual(standings_back(setup, rule, boards), [])
                self.assertIsNone(row_back(setup, rule, boards))
                self.assertEqual(rows_counted(setup, rule, boards), 0)
                self.assertEqual(next_boards(setup, rule, boards), [])
                self.assertIsNone(costs_back(setup, rule, boards))
                self.assertIsNone(comers_back(setup, rule, boards))
                self.assertEqual(told_apart(setup, rule, rule, boards), (False, False))

    def test_thirty_boards(self):
        for place, (setup, rule) in enumerate(FEW + [MEET_120, MEET_600]):
            row = some_rows(place, setup, 1, 30)[0]
            boards = plain_boards(setup, rule, row)
            self.assertEqual(boards_of(setup, rule, row), boards)
            standing = run(setup, rule[0], row, rule[1])[0].standing()
            self.assertIn(standing, standings_back(setup, rule, boards))
            self.assertIn(standing, standings_seen(setup, rule, boards[20:]))
            self.assertLessEqual(set(standings_back(setup, rule, boards)), set(standings_seen(setup, rule, boards)))
            found = row_back(setup, rule, boards)
            self.assertLessEqual(found, row)
            self.assertEqual(plain_boards(setup, rule, found), boards)
            least, most = costs_back(setup, rule, boards)
            self.assertTrue(least <= total(setup, rule, row) <= most)
            self.assertGreaterEqual(rows_counted(setup, rule, boards), 1)
            self.assertTrue(all(came in could for came, could in zip(row, comers_back(setup, rule, boards))))

    def test_seen_whatever_went_ahead(self):
        for setup, rule in SMALL + FEW:
            told = told_board(setup, rule)
            for row in some_rows(5, setup, 4, 6):
                boards = plain_boards(setup, rule, row)[-3:]
                places = set(met_house(setup, rule))
                for word in boards:
                    places = {after for place in places for shows, after in told(place) if shows == word}
                self.assertEqual(standings_seen(setup, rule, boards), sorted(places))
            self.assertEqual(standings_seen(setup, rule, [(8, 8, 8)]), [])

    def test_two_rules(self):
        found = set()
        for setup, rule, other in PAIRS:
            both = [shown(setup, half, 2) for half in (rule, other)]
            for boards in {**both[0], **both[1]}:
                expected = tuple(boards in lists for lists in both)
                found.add(expected)
                self.assertEqual(told_apart(setup, rule, other, list(boards)), expected)
        self.assertEqual(found, {(True, True), (True, False), (False, True)})

    def test_errors(self):
        functions = [standings_back, row_back, rows_counted, next_boards, costs_back, comers_back, standings_seen]
        for asked in [*functions, boards_of]:
            for thing in NO_SETUPS:
                with self.subTest(thing=str(thing)), self.assertRaises(BadSetup):
                    asked(thing, None, None)
            for thing in NO_RULES:
                with self.subTest(thing=str(thing)), self.assertRaises(BadRule):
                    asked(SETUP, thing, None)
        for thing, place in NO_ROWS:
            with self.subTest(thing=str(thing)[:60]), self.assertRaises(BadRow) as caught:
                boards_of(SETUP, RULE, thing)
            self.assertEqual(caught.exception.place, place)
        boards_of(*MEET_MORE, [((), 0)] * 200)
        for asked in functions:
            for thing in NO_BOARDS:
                for case in [(SETUP, RULE), MEET_601]:
                    with self.subTest(thing=str(thing)[:60]), self.assertRaises(BadBoards):
                        asked(*case, thing)
            asked(SETUP, RULE, [(9, 9, 9)] * 30)
            asked(*MEET_600, [])
            for case in [MEET_601, MEET_MORE]:
                with self.assertRaises(TooMany):
                    asked(*case, [])

    def test_errors_of_two_rules(self):
        for thing in NO_SETUPS:
            with self.assertRaises(BadSetup):
                told_apart(thing, None, None, None)
        for thing in NO_RULES:
            with self.subTest(thing=str(thing)), self.assertRaises(BadRule):
                told_apart(SETUP, thing, None, None)
            with self.subTest(thing=str(thing)), self.assertRaises(BadRule):
                told_apart(SETUP, thing, RULE, [])
            with self.assertRaises(BadRule):
                told_apart(SETUP, RULE, thing, None)
        for thing in NO_BOARDS:
            with self.subTest(thing=str(thing)[:60]), self.assertRaises(BadBoards):
                told_apart(SETUP, RULE, RULE, thing)
        for rules in [(MEET_601[1], ((), ())), (((), ()), MEET_601[1])]:
            with self.assertRaises(TooMany):
                told_apart(MEET_601[0], *rules, [])


class Counted(unittest.TestCase):
    def test_all_rows_of_a_few_beats(self):
        for setup, rule in SMALL + FEW:
            for beats in range(some_beats(setup) + 1):
                self.assertEqual(boards_counted(setup, rule, beats), len(shown(setup, rule, beats)))
        self.assertEqual(boards_counted(setup=SETUP, rule=RULE, count=2), 3)

    def test_twelve_beats(self):
        for setup, rule in SMALL + FEW:
            told = told_board(setup, rule)
            lists = {frozenset([START]): 1}
            for _ in range(12):
                further = {}
                for members, count in lists.items():
                    behind = {}
                    for member in members:
                        for word, after in told(member):
                            behind.setdefault(word, set()).add(after)
                    for after in behind.values():
                        further[frozenset(after)] = further.get(frozenset(after), 0) + count
                lists = further
            self.assertEqual(boards_counted(setup, rule, 12), sum(lists.values()))

    def test_too_many(self):
        for case, count in [(COUNTED_600, 600), (COUNTED_601, 601)]:
            self.assertLessEqual(len(met_house(*case)), 600)
            self.assertEqual(len(sets_met(told_board(*case), frozenset([START]))), count)
        self.assertEqual(boards_counted(*COUNTED_600, 0), 1)
        with self.assertRaises(TooMany):
            boards_counted(*COUNTED_601, 0)

    def test_errors(self):
        for thing in NO_SETUPS:
            with self.assertRaises(BadSetup):
                boards_counted(thing, None, None)
        for thing in NO_RULES:
            with self.subTest(thing=str(thing)), self.assertRaises(BadRule):
                boards_counted(SETUP, thing, None)
        for thing in [*NO_COUNTS, 13]:
            for case in [(SETUP, RULE), MEET_601]:
                with self.subTest(thing=str(thing)), self.assertRaises(BadCount):
                    boards_counted(*case, thing)
        for case in [MEET_601, MEET_MORE]:
            with self.assertRaises(TooMany):
                boards_counted(*case, 0)


class Sure(unittest.TestCase):
    def test_by_hand(self):
        self.assertEqual(first_sure(SETUP, RULE), [(0, 0, 0)])
        self.assertEqual(first_sure(setup=SETUP, rule=(EAGER, ())), [])

    def test_all_sets(self):
        lengths = set()
        for setup, rule in SMALL + FEW:
            sets = sets_met(told_board(setup, rule), frozenset(met_house(setup, rule)))
            expected = shortest([words for members, words in sets.items() if len(members) == 1])
            self.assertEqual(first_sure(setup, rule), expected)
            lengths.add(None if expected is None else len(expected))
        self.assertLessEqual({None, 0, 1, 2}, lengths)

    def test_too_many(self):
        for case, count in [(SURE_599, 599), (SURE_601, 601)]:
            places = met_house(*case)
            self.assertLessEqual(len(places), 600)
            self.assertEqual(len(sets_met(told_board(*case), frozenset(places))), count)
        first_sure(*SURE_599)
        with self.assertRaises(TooMany):
            first_sure(*SURE_601)

    def test_errors(self):
        for asked in [first_sure, first_untold]:
            for thing in NO_SETUPS:
                with self.assertRaises(BadSetup):
                    asked(thing, None)
            for thing in NO_RULES:
                with self.subTest(thing=str(thing)), self.assertRaises(BadRule):
                    asked(SETUP, thing)
            for case in [MEET_601, MEET_MORE]:
                with self.assertRaises(TooMany):
                    asked(*case)


def plain_pairs_untold(setup, rule, most=None):
    """For each pair, the lesser one first, of standings after rows with equal boards the first shortest boards."""
    told = told_board(setup, rule)
    known, level = {(START, START): []}, {(START, START): []}
    while level and (most is None or len(known) <= most):
        further = {}
        for (first, second), words in level.items():
            for word, after in told(first):
                for other, beside in told(second):
                    if word == other:
                        pair = tuple(sorted([after, beside]))
                        longer = words + [word]
                        if pair not in known:
                            further[pair] = min(longer, further.get(pair, longer))
        known.update(further)
        level = further
    return known


def plain_untold(setup, rule):
    """The first shortest boards that rows of unlike costs show, by the last beat of such rows."""
    found = []
    for (first, second), words in plain_pairs_untold(setup, rule).items():
        beats = [[house_beat(setup, rule, place, comers) for comers in comers_of(setup)] for place in (first, second)]
        for after, bill in beats[0]:
            for beside, other in beats[1]:
                if board(after) == board(beside) and plain_count(setup, "cost", bill) != plain_count(setup, "cost", other):
                    found.append(words + [board(after)])
    return shortest(found)


class Untold(unittest.TestCase):
    def test_by_hand(self):
        # with a portion open one more may come, or two of whom one is unserved
        self.assertEqual(first_untold(SETUP, RULE), [(0, 0, 1), (0, 0, 0)])
        self.assertIsNone(first_untold(setup=changed_at(SETUP, (6,), (0, 0, 0, 0)), rule=RULE))

    def test_all_short_rows(self):
        lengths = set()
        for setup, rule in SMALL + FEW:
            found = first_untold(setup, rule)
            lengths.add(None if found is None else len(found))
            for beats in range(some_beats(setup) + 1):
                lists = [
                    list(boards) for boards, rows in shown(setup, rule, beats).items()
                    if len({total(setup, rule, row) for row in rows}) > 1
                ]
                if lists:
                    self.assertEqual(found, min(lists))
                    break
            else:
                self.assertTrue(found is None or len(found) > some_beats(setup))
        self.assertLessEqual({None, 1, 2}, lengths)

    def test_all_pairs(self):
        for setup, rule in SMALL + FEW:
            if len(plain_pairs_untold(setup, rule, 150)) <= 150:
                self.assertEqual(first_untold(setup, rule), plain_untold(setup, rule))

    def test_too_many(self):
        for case, count in [(UNTOLD_600, 600), (UNTOLD_601, 601)]:
            self.assertLessEqual(len(met_house(*case)), 600)
            self.assertEqual(len(plain_pairs_untold(*case)), count)
        first_untold(*UNTOLD_600)
        with self.assertRaises(TooMany):
            first_untold(*UNTOLD_601)


def plain_beside(setup, rule, other, most=None):
    """For each (standing, set of the other rule's standings) of equal boards the first shortest boards."""
    told, beside = told_board(setup, rule), told_board(setup, other)
    start = (START, frozenset([START]))
    known, level = {start: []}, {start: []}
    while level and (most is None or len(known) <= most):
        further = {}
        for (standing, members), words in level.items():
            for word, after in told(standing):
                pair = (after, frozenset(end for member in members for shows, end in beside(member) if shows == word))
                longer = words + [word]
                if pair not in known:
                    further[pair] = min(longer, further.get(pair, longer))
        known.update(further)
        level = further
    return known


def plain_board_paper_holds(setup, rule, other, paper):
    """Whether right entries are a paper, as the document tells it."""
    told, beside = told_board(setup, rule), told_board(setup, other)
    if (START, (START,)) not in paper:
        return False
    for standing, standings in paper:
        if standing not in met_house(setup, rule) or not standings or sorted(set(standings)) != list(standings):
            return False
        if not set(standings) <= set(met_house(setup, other)):
            return False
        for word, after in told(standing):
            left = {end for member in standings for shows, end in beside(member) if shows == word}
            if not any(place == after and set(some) <= left for place, some in paper):
                return False
    return True


class Told(unittest.TestCase):
    def test_by_hand(self):
        self.assertEqual(first_told(SETUP, RULE, ((), ())), [(0, 0, 1)])
        self.assertEqual(first_told(setup=SETUP, rule=((), ()), other=RULE), [(1, 0, 0)])
        self.assertIsNone(board_paper(SETUP, RULE, ((), ())))
        self.assertIsNone(first_told(SETUP, RULE, RULE))
        second = ((), 0, ((1, 1),), (0, 0))
        self.assertEqual(board_paper(setup=SETUP, rule=RULE, other=RULE), [(START, (START,)), (second, (second,))])

    def test_all_sets(self):
        found = set()
        for setup, rule, other in PAIRS:
            pairs = plain_beside(setup, rule, other, 600)
            if len(pairs) > 600:
                found.add("many")
                for asked in [first_told, board_paper]:
                    with self.assertRaises(TooMany):
                        asked(setup, rule, other)
                with self.assertRaises(TooMany):
                    board_paper_holds(setup, rule, other, None)
                continue
            expected = shortest([words for (_, members), words in pairs.items() if not members])
            found.add(None if expected is None else len(expected))
            self.assertEqual(first_told(setup, rule, other), expected)
            paper = board_paper(setup, rule, other)
            if expected is not None:
                self.assertIsNone(paper)
                continue
            self.assertEqual(paper, sorted((standing, tuple(sorted(members))) for standing, members in pairs))
            self.assertIs(plain_board_paper_holds(setup, rule, other, paper), True)
            self.assertIs(board_paper_holds(setup, rule, other, paper), True)
        self.assertLessEqual({None, 1, 2}, found)

    def test_all_short_rows(self):
        for setup, rule, other in PAIRS:
            for beats in range(some_beats(setup) + 1):
                lists = sorted(set(shown(setup, rule, beats)) - set(shown(setup, other, beats)))
                if lists:
                    self.assertEqual(first_told(setup, rule, other), list(lists[0]))
                    break

    def test_too_many(self):
        for (setup, rule, other), count in [(TOLD_600, 600), (TOLD_651, 651)]:
            self.assertLessEqual(max(len(met_house(setup, rule)), len(met_house(setup, other))), 600)
            self.assertEqual(len(plain_beside(setup, rule, other)), count)
        first_told(*TOLD_600)
        board_paper(*TOLD_600)
        self.assertIs(board_paper_holds(*TOLD_600, []), False)
        for asked in [first_told, board_paper]:
            with self.assertRaises(TooMany):
                asked(*TOLD_651)
        for thing in [None, []]:
            with self.assertRaises(TooMany):
                board_paper_holds(*TOLD_651, thing)

    def test_many_pairs(self):
        for case in [MEET_601, MEET_MORE]:
            for rules in [(case[1], ((), ())), (((), ()), case[1])]:
                for asked in [first_told, board_paper]:
                    with self.assertRaises(TooMany):
                        asked(case[0], *rules)
                for thing in [None, []]:
                    with self.assertRaises(TooMany):
                        board_paper_holds(case[0], *rules, thing)

    def test_errors(self):
        for asked, further in [(first_told, []), (board_paper, []), (board_paper_holds, [None])]:
            for thing in NO_SETUPS:
                with self.assertRaises(BadSetup):
                    asked(thing, None, None, *further)
            for thing in NO_RULES:
                with self.subTest(thing=str(thing)), self.assertRaises(BadRule):
                    asked(SETUP, thing, None, *further)
                with self.subTest(thing=str(thing)), self.assertRaises(BadRule):
                    asked(SETUP, thing, RULE, *further)
                with self.assertRaises(BadRule):
                    asked(SETUP, RULE, thing, *further)
                with self.assertRaises(BadRule):
                    asked(MEET_601[0], MEET_601[1], thing, *further)


class Papers(unittest.TestCase):
    def test_changed_papers(self):
        held = [0, 0]
        for setup, rule, other in PAIRS:
            if len(plain_beside(setup, rule, other, 40)) > 40:
                continue
            paper = board_paper(setup, rule, other)
            if paper is None:
                continue
            for changed in changed_papers(setup, rule, other, paper):
                expected = plain_board_paper_holds(setup, rule, other, changed)
                held[expected] += 1
                self.assertIs(board_paper_holds(setup, rule, other, changed), expected)
        self.assertGreater(min(held), 50)

    def test_rules_that_can_be_told(self):
        # no list of right entries holds if the second rule cannot show all boards
        setup, rule, other = SETUP, RULE, ((), ())
        entries = [(place, (beside,)) for place in met_house(setup, rule) for beside in met_house(setup, other)]
        self.assertIs(board_paper_holds(setup, rule, other, entries), False)

    def test_other_objects(self):
        paper = board_paper(SETUP, RULE, RULE)
        first, second = paper
        entries = [
            None, True, 0, (), (START,), (START, (START,), 0), list(first), (START, ()), (START, [START]), (START, START),
            (START, None), (None, (START,)), (START, (None,)), ({}, (START,)), (START, ({},)), (list(START), (START,)),
            (((), False, (), (0, 0)), (START,)), (START, (((), 0, (), (0, False)),)), (((), 0, (), (0, 1)), (START,)),
            (START, (((), 0, (), (1, 0)),)), (START, (second[0], START)), (START, "x"), ("x", (START,)), (0, (0,)),
            (START, 7), (START, (START, ((), 0, ((1, 2),), (0, 0)))),
        ]
        self.assertIs(board_paper_holds(SETUP, RULE, RULE, paper + [(START, (START, second[0]))]), True)
        for entry in entries:
            with self.subTest(entry=str(entry)):
                self.assertIs(board_paper_holds(SETUP, RULE, RULE, paper + [entry]), False)
                self.assertIs(board_paper_holds(SETUP, RULE, RULE, [entry] + paper), False)
        for thing in [*NO_THINGS, tuple(paper), dict(paper), [first], [second]]:
            with self.subTest(thing=str(thing)):
                self.assertIs(board_paper_holds(SETUP, RULE, RULE, thing), False)
        self.assertIs(board_paper_holds(setup=SETUP, rule=RULE, other=RULE, thing=[second, first, first]), True)


def changed_papers(setup, rule, other, paper):
    yield paper[::-1]
    yield paper + paper
    yield []
    others = met_house(setup, other)
    for place, (standing, standings) in enumerate(paper):
        yield paper[:place] + paper[place + 1:]
        for one in standings:
            fewer = tuple(end for end in standings if end != one)
            yield paper[:place] + [(standing, fewer)] + paper[place + 1:]
            yield paper + [(standing, (one,))]
        more = [end for end in others if end not in standings][:2]
        for one in more:
            yield paper[:place] + [(standing, tuple(sorted(standings + (one,))))] + paper[place + 1:]


if __name__ == "__main__":
    unittest.main()
