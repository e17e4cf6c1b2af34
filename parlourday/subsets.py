"""Sets of nodes to which all that tells the same can lead.

What is told is a list with, for each node, the list of (word, target) of its beats, as table_web makes it.
A set is an ascending tuple of nodes; a table of sets has lists of (set behind, word), ascending by word.
"""

from parlourday.graphs import walk_back
from parlourday.tables import steps_of, table_of

MOST_SETS = 600


def set_table(told, first):
    """The table of all sets, not empty, that come from a first one; TooMany if there are more than can be."""
    return table_of(first, lambda members: sets_behind(told, members), MOST_SETS)


def sets_behind(told, members):
    """The list of (set, word) of the sets to which the nodes of a set lead, by what is told."""
    groups = {}
    for node in members:
        for word, target in told[node]:
            behind = groups.setdefault(word, {})
            behind[target] = True
    return [(tuple(sorted(groups[word])), word) for word in sorted(groups)]


def first_words(table, first, fits):
    """The tuple (words, place) of the first shortest words that lead to a place that fits, None if none do."""
    steps = steps_of(table, first)
    for place in steps:
        if fits(place):
            return (words_along(table, first, walk_back(steps, place)), place)
    return None


def words_along(table, place, indexes):
    """The list of the words of beats with these indexes, one after the other from a place on."""
    words = []
    for index in indexes:
        place, word = table[place][index]
        words.append(word)
    return words


def least_lists(table, first):
    """For each place of a table the first shortest list of words that leads to it.

    Unlike in first_words, equal words may lead from one place to several ones.
    """
    lists = {first: []}
    level = [first]
    while level:
        further = {}
        for place in level:
            for after, word in table[place]:
                longer = lists[place] + [word]
                if after not in lists and (after not in further or longer < further[after]):
                    further[after] = longer
        for place, words in further.items():
            lists[place] = words
        level = list(further)
    return lists


def shortest_list(lists):
    """The first shortest one of lists, None if there are none."""
    return min(lists, key=lambda words: (len(words), words)) if lists else None
