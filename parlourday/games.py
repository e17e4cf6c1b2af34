"""Games: webs on which the house and the guests choose the moves."""

from parlourday.contests import contest_mean, contest_means, weighed_moves
from parlourday.cycles import greatest_mean
from parlourday.energy import least_needs
from parlourday.errors import BadGame, BadOwner, BadWay
from parlourday.numbers import bears, caps, walk_by_lines
from parlourday.plain import check_count, check_fraction, is_pair, is_whole_in, turned_fraction
from parlourday.sums import best_sums, turned, weighed
from parlourday.webs import is_web

OWNERS = ("house", "guests")
MOST_GAME_NODES = 30
MOST_GAME_WEIGHT = 50
MOST_STEPS = 12


def is_game(thing):
    """Whether any object is a game."""
    if not (is_pair(thing) and isinstance(thing[0], tuple) and is_web(thing[1])):
        return False
    owners, web = thing
    if len(web) > MOST_GAME_NODES or len(owners) != len(web) or not all([owner in OWNERS for owner in owners]):
        return False
    return all([abs(weight) <= MOST_GAME_WEIGHT for moves in web for weight, _ in moves])


def check_game(thing):
    """Raise BadGame for what is no game."""
    if not is_game(thing):
        raise BadGame("a game is a tuple of the owners of the nodes and a web of at most thirty nodes")


def check_owner(thing):
    """Raise BadOwner for what is no owner."""
    if thing not in OWNERS:
        raise BadOwner("an owner is house or guests")


def is_way(game, owner, thing):
    """Whether any object is a way of an owner in a game."""
    owners, web = game
    if not (isinstance(thing, tuple) and len(thing) == len(web)):
        return False
    return all([
        is_whole_in(index, 0, len(moves) - 1) if mine == owner else index is None
        for index, mine, moves in zip(thing, owners, web)
    ])


def held(game, owner, way):
    """The web in which an owner has, at each node of its own, the chosen move alone."""
    check_game(game)
    check_owner(owner)
    if not is_way(game, owner, way):
        raise BadWay("a way is a tuple with the index of a move for each node of the owner, else None")
    return held_web(game, way)


def held_web(game, way):
    """The web that a way leaves of a game."""
    return tuple([
        moves if index is None else (moves[index],)
        for index, moves in zip(way, game[1])
    ])


def owned_nodes(game):
    """For each node whether it is the house's."""
    return [owner == "house" for owner in game[0]]


def timed_moves(web):
    """The moves (weight, 1, target) of a web."""
    return [[(weight, 1, target) for weight, target in moves] for moves in web]


def game_mean(game):
    """The fraction to which either owner can hold the game from node 0."""
    check_game(game)
    return mean_of(game)


def mean_of(game):
    """The mean of what is known to be a game."""
    return contest_mean(owned_nodes(game), timed_moves(game[1]), 0, -MOST_GAME_WEIGHT - 1, MOST_GAME_WEIGHT)


def game_values(game):
    """The tuple, for each node, of the mean that the game would have if it began there."""
    check_game(game)
    found = contest_means(owned_nodes(game), timed_moves(game[1]), -MOST_GAME_WEIGHT - 1, MOST_GAME_WEIGHT)
    return tuple(found)


def house_way(game):
    """A way of the house that holds the game to its mean."""
    check_game(game)
    return best_way_for(game, mean_of(game))


def guests_way(game):
    """A way of the guests that holds the game to its mean."""
    check_game(game)
    return best_way_for(turned_game(game), turned_fraction(mean_of(game)))


def best_way_for(game, fraction):
    """A way of the house that holds the game to a fraction from all nodes where it can."""
    _, found = needs_and_way(game, fraction)
    return tuple([
        (0 if index is None else index) if mine else None
        for index, mine in zip(found, owned_nodes(game))
    ])


def needs_and_way(game, fraction):
    """What the house needs to hold the game to a fraction, and the moves that it chooses."""
    return least_needs(owned_nodes(game), weighed_moves(timed_moves(game[1]), fraction))


def game_paper(game, owner):
    """A way of an owner and numbers, which show that it holds the game to its mean."""
    check_game(game)
    check_owner(owner)
    if owner == "house":
        way = house_way(game)
        web = held_web(game, way)
        return (way, best_sums(weighed(web, greatest_mean(web))))
    way = guests_way(game)
    web = turned(held_web(game, way))
    return (way, tuple([-number for number in best_sums(weighed(web, greatest_mean(web)))]))


def game_shows(game, owner, fraction, thing):
    """Whether any object is a game paper of an owner for a fraction."""
    check_game(game)
    check_owner(owner)
    check_fraction(fraction)
    if not (is_pair(thing) and is_way(game, owner, thing[0])):
        return False
    web = held_web(game, thing[0])
    return caps(web, fraction, thing[1]) if owner == "house" else bears(web, fraction, thing[1])


def game_needs(game, fraction):
    """The tuple, for each node, of the least number that the house can keep all sums of gains to.

    A gain is how far a weight is above the fraction, times its below; None where no number is enough.
    """
    check_game(game)
    check_fraction(fraction)
    needs, _ = needs_and_way(game, fraction)
    return tuple(needs)


def game_turned(game):
    """The game with the owners exchanged and each weight with the other sign."""
    check_game(game)
    return turned_game(game)


def turned_game(game):
    """The game seen from the other side."""
    owners, web = game
    return (tuple(["guests" if owner == "house" else "house" for owner in owners]), turned(web))


def game_steps(game, count):
    """The sum of so many moves from node 0 if both owners choose as well as can be."""
    check_game(game)
    check_count(count, 0, MOST_STEPS)
    return lines_left(game, count)[count][0]


def steps_lines(game, count):
    """The list, for 0 to so many moves that are left, of the tuples of what must still come from each node."""
    check_game(game)
    check_count(count, 0, MOST_STEPS)
    return lines_left(game, count)


def lines_left(game, count):
    """The lines of what must still come, for 0 to so many moves that are left."""
    lines = [tuple([0] * len(game[1]))]
    for _ in range(count):
        lines.append(line_left(game, lines[-1]))
    return lines


def line_left(game, line):
    """The line for one move more than a line has."""
    found = []
    for owner, moves in zip(game[0], game[1]):
        sums = [weight + line[target] for weight, target in moves]
        found.append(min(sums) if owner == "house" else max(sums))
    return tuple(found)


def steps_play(game, count):
    """The list of the indexes of so many moves from node 0, each the first best one of its owner."""
    check_game(game)
    check_count(count, 0, MOST_STEPS)
    return walk_by_lines(game[1], lines_left(game, count), 0)
