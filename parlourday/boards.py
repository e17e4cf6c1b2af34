"""Boards: what can be told of a row of comers, and of a rule, by how many wait and how many portions are open."""

from parlourday.errors import BadBoards
from parlourday.house import (
    EMPTY_HOUSE, MOST_STANDINGS, bill_count, check_house_row, check_rule, house_beat, house_table,
)
from parlourday.plain import check_count, fault_in, is_firm, is_pair, is_whole_in
from parlourday.setups import check_setup, row_at
from parlourday.sights import (
    FIRST, beside_table, board_of, first_list_told, first_unlike, followed, standings_by, told_by,
)
from parlourday.subsets import first_words, set_table
from parlourday.tables import first_with, hopes

MOST_BOARDS = 30
MOST_COUNTED = 12


def is_board(thing):
    """Whether any object has the form of a board."""
    return isinstance(thing, tuple) and len(thing) == 3 and all([is_whole_in(part, 0, 9) for part in thing])


def check_boards(thing):
    """Raise BadBoards for what is no list of boards."""
    if fault_in(thing, is_board, MOST_BOARDS) is not None:
        raise BadBoards("boards are a list of at most thirty tuples (groups, singles, open)")


def seen_table(setup, rule):
    """The table of the house, as far as boards are looked at; TooMany if there are too many standings."""
    return house_table(setup, rule, MOST_STANDINGS)


def checked_table(setup, rule, boards):
    """The table of the house, after a look at a setup, a rule and boards."""
    check_setup(setup)
    check_rule(rule)
    check_boards(boards)
    return seen_table(setup, rule)


def boards_of(setup, rule, row):
    """The list of the boards after the beats of a row."""
    check_house_row(setup, rule, row)
    standing = EMPTY_HOUSE
    found = []
    for comers in row:
        standing, _, _ = house_beat(setup, rule, standing, comers)
        found.append(board_of(standing))
    return found


def standings_back(setup, rule, boards):
    """The ascending list of the standings after all rows with these boards."""
    return standings_by(checked_table(setup, rule, boards), [EMPTY_HOUSE], boards)


def row_back(setup, rule, boards):
    """The first row with these boards, as lists compare, None if there is none."""
    table = checked_table(setup, rule, boards)
    return row_at(setup, first_with(table, EMPTY_HOUSE, boards, lambda beat: board_of(beat[0])))


def rows_counted(setup, rule, boards):
    """How many rows have these boards."""
    table = checked_table(setup, rule, boards)
    counts = {EMPTY_HOUSE: 1}
    for board in boards:
        further = {}
        for standing, count in counts.items():
            for after, _, _ in table[standing]:
                if board_of(after) == board:
                    further[after] = further.get(after, 0) + count
        counts = further
    return sum(list(counts.values()))


def next_boards(setup, rule, boards):
    """The ascending list of all boards by which these can be gone on."""
    table = checked_table(setup, rule, boards)
    standings = standings_by(table, [EMPTY_HOUSE], boards)
    return sorted(set([board_of(beat[0]) for standing in standings for beat in table[standing]]))


def costs_back(setup, rule, boards):
    """The tuple of the least and the greatest cost of the rows with these boards, None if there is none."""
    table = checked_table(setup, rule, boards)
    costs = {EMPTY_HOUSE: (0, 0)}
    for board in boards:
        further = {}
        for standing, (least, most) in costs.items():
            for after, bill, _ in table[standing]:
                if board_of(after) == board:
                    cost = bill_count(setup, "cost", bill)
                    low, high = further.get(after, (least + cost, most + cost))
                    further[after] = (min(low, least + cost), max(high, most + cost))
        costs = further
    if not costs:
        return None
    return (min([least for least, _ in costs.values()]), max([most for _, most in costs.values()]))


def comers_back(setup, rule, boards):
    """For each board the ascending list of the comers of the rows with these boards, None if there is none."""
    table = checked_table(setup, rule, boards)
    told = {place: [(board_of(beat[0]), beat[0]) for beat in beats] for place, beats in table.items()}
    lines = hopes(told, boards)
    if EMPTY_HOUSE not in lines[-1]:
        return None
    places = {EMPTY_HOUSE: True}
    found = []
    for at, board in enumerate(boards):
        ahead = lines[len(boards) - at - 1]
        steps = [
            (index, after)
            for place in places for index, (word, after) in enumerate(told[place]) if word == board and after in ahead
        ]
        found.append(row_at(setup, sorted(set([index for index, _ in steps]))))
        places = {after: True for _, after in steps}
    return found


def standings_seen(setup, rule, boards):
    """The ascending list of the standings after all rows whose last boards are these."""
    table = checked_table(setup, rule, boards)
    return standings_by(table, list(table), boards)


def told_apart(setup, rule, other, boards):
    """The tuple of whether each of two rules can have shown boards from the first beat on."""
    check_setup(setup)
    check_rule(rule)
    check_rule(other)
    check_boards(boards)
    tables = [seen_table(setup, rule), seen_table(setup, other)]
    return tuple([len(standings_by(table, [EMPTY_HOUSE], boards)) > 0 for table in tables])


def boards_counted(setup, rule, count):
    """How many different lists of so many boards a rule can show."""
    check_setup(setup)
    check_rule(rule)
    check_count(count, 0, MOST_COUNTED)
    table = set_table(told_by(seen_table(setup, rule)), (FIRST,))
    counts = {(FIRST,): 1}
    for _ in range(count):
        further = {}
        for members, lists in counts.items():
            for behind, _ in table[members]:
                further[behind] = further.get(behind, 0) + lists
        counts = further
    return sum(list(counts.values()))


def first_sure(setup, rule):
    """The first shortest list of boards behind which there is one standing, whatever went ahead, or None."""
    check_setup(setup)
    check_rule(rule)
    told = told_by(seen_table(setup, rule))
    everywhere = tuple(range(len(told)))
    found = first_words(set_table(told, everywhere), everywhere, lambda members: len(members) == 1)
    return None if found is None else found[0]


def first_untold(setup, rule):
    """The first shortest list of boards that rows of unlike costs show, None if there is none."""
    check_setup(setup)
    check_rule(rule)
    return first_unlike(setup, seen_table(setup, rule))


def two_told(setup, rule, other):
    """The tuple of the tables of two rules, after a look at a setup and both rules."""
    check_setup(setup)
    check_rule(rule)
    check_rule(other)
    return (seen_table(setup, rule), seen_table(setup, other))


def first_told(setup, rule, other):
    """The first shortest list of boards that the first rule can show and the second one cannot, or None."""
    table, beside = two_told(setup, rule, other)
    return first_list_told(beside_table(told_by(table), told_by(beside)))


def board_paper(setup, rule, other):
    """The ascending list of (standing, standings) that come by the same boards.

    None if the first rule can show boards that the second one cannot.
    """
    table, beside = two_told(setup, rule, other)
    pairs = beside_table(told_by(table), told_by(beside))
    if any([not members for _, members in pairs]):
        return None
    standings = list(table)
    others = list(beside)
    return [(standings[place], tuple([others[member] for member in members])) for place, members in pairs]


def board_paper_holds(setup, rule, other, thing):
    """Whether any object shows that the second rule can show all boards that the first one can."""
    table, beside = two_told(setup, rule, other)
    told, shown = told_by(table), told_by(beside)
    beside_table(told, shown)
    if not (isinstance(thing, list) and all([is_paper_entry(entry, table, beside) for entry in thing])):
        return False
    places = {standing: place for place, standing in enumerate(table)}
    others = {standing: place for place, standing in enumerate(beside)}
    papers = {}
    for standing, standings in thing:
        sets = papers.setdefault(places[standing], {})
        sets[tuple([others[member] for member in standings])] = True
    if (FIRST,) not in papers.get(FIRST, {}):
        return False
    return all([followed(told, shown, papers, place, some) for place, sets in papers.items() for some in sets])


def is_paper_entry(thing, table, beside):
    """Whether an object is (standing, standings) of two rules, the standings ascending, at least one."""
    if not (is_pair(thing) and is_firm(thing, 5) and thing[0] in table and isinstance(thing[1], tuple)):
        return False
    standings = thing[1]
    if not standings or not all([standing in beside for standing in standings]):
        return False
    return all([standing < behind for standing, behind in zip(standings, standings[1:])])
