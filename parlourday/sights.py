"""What boards show: the tables of sets and of pairs of standings that the same boards lead to.

What is told is a list with, for each standing by its place among those that are met, the list of
(board, place behind) of its beats.
"""

from parlourday.cellar import portions_open
from parlourday.house import bill_count
from parlourday.subsets import MOST_SETS, least_lists, sets_behind, shortest_list
from parlourday.tables import table_of, table_web

FIRST = 0


def board_of(standing):
    """The board (groups, singles, open) that a standing of the house shows."""
    return (len(standing[0]), standing[1], portions_open(standing[2]))


def told_by(table):
    """What the boards of a table of the house tell."""
    return table_web(table, lambda beat: board_of(beat[0]))


def standings_by(table, starts, boards):
    """The ascending list of the standings to which starts can lead by boards."""
    places = starts
    for board in boards:
        behind = [beat[0] for place in places for beat in table[place] if board_of(beat[0]) == board]
        places = sorted(set(behind))
    return list(places)


def first_unlike(setup, table):
    """The first shortest list of boards that rows of unlike costs show, None if there is none.

    Up to the beat behind which costs are unlike for the first time it does not matter which row went
    ahead: so just that beat is looked at, from each pair of standings that the same boards lead to.
    """
    nodes = {standing: node for node, standing in enumerate(table)}
    beats = [
        [(board_of(beat[0]), nodes[beat[0]], bill_count(setup, "cost", beat[1])) for beat in behind]
        for behind in table.values()
    ]
    pairs = table_of((FIRST, FIRST), lambda pair: pairs_behind(beats[pair[0]], beats[pair[1]]), MOST_SETS)
    lists = least_lists(pairs, (FIRST, FIRST))
    return shortest_list([
        words + [board]
        for pair, words in lists.items() for board in unlike_boards(beats[pair[0]], beats[pair[1]])
    ])


def pairs_behind(beats, others):
    """The list, without duplicates, of (pair, board) behind two standings, the lesser or equal one first."""
    found = {}
    for board, place, _ in beats:
        for shown, other, _ in others:
            if shown == board:
                found[((min(place, other), max(place, other)), board)] = True
    return list(found)


def unlike_boards(beats, others):
    """The list of the boards that beats of two standings show at unlike costs."""
    return [
        board for board, _, cost in beats
        if any([shown == board and paid != cost for shown, _, paid in others])
    ]


def beside_table(told, beside):
    """The table of pairs (place, set) of one rule and of all places of another one, by the same boards.

    The set is empty where the other rule cannot show the boards. TooMany if there are too many pairs.
    """

    def behind(pair):
        others = {board: members for members, board in sets_behind(beside, pair[1])}
        return [((place, others.get(board, ())), board) for board, place in told[pair[0]]]

    return table_of((FIRST, (FIRST,)), behind, MOST_SETS)


def first_list_told(pairs):
    """The first shortest list of boards that leads to an empty set, None if there is none."""
    lists = least_lists(pairs, (FIRST, (FIRST,)))
    return shortest_list([words for (_, members), words in lists.items() if not members])


def followed(told, beside, papers, place, members):
    """Whether each beat of a place leads to a pair, of those in papers, with some of the set that its board leaves.

    papers is a dict with, for each place, the dict of its sets.
    """
    others = {board: left for left, board in sets_behind(beside, members)}
    for board, after in told[place]:
        left = others.get(board, ())
        if not any([all([member in left for member in some]) for some in list(papers.get(after, {}))]):
            return False
    return True
