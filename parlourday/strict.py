"""Ways of the house by which the number of a word is ever 0."""

from parlourday.views import coming_views, deed_done, deeds_at
from parlourday.ways import FIRST, mean_from


def counted_moves(setup, place, what):
    """For each move of a view or a start the number of a word that it brings."""
    if len(place) == 3:
        return [away if what == "away" else 0 for away, _ in coming_views(setup, place)]
    found = []
    for deed in deeds_at(place):
        _, empty, unserved, melted = deed_done(setup, place, deed)
        counts = {"empty": empty, "unserved": unserved, "melted": melted, "away": 0}
        found.append(counts[what])
    return found


def lost_places(contest, counts):
    """For each place whether the house cannot keep all counts at 0 from it on."""
    _, owned, moves = contest
    lost = [False] * len(owned)
    grown = True
    while grown:
        grown = False
        for number, options in enumerate(moves):
            wrong = [count > 0 or lost[move[2]] for count, move in zip(counts[number], options)]
            if not lost[number] and (all(wrong) if owned[number] else any(wrong)):
                lost[number] = True
                grown = True
    return lost


def strict_mean(setup, contest, what):
    """The least fraction to which some way can hold the mean of the cost with the number of a word ever 0.

    None if no way does; those away at the first beat are left aside.
    """
    places, owned, moves = contest
    counts = [counted_moves(setup, place, what) for place in places]
    lost = lost_places(contest, counts)
    first = [target for _, _, target in moves[FIRST]]
    if any([lost[number] for number in first]):
        return None
    kept = [number for number in range(len(owned)) if not lost[number]]
    names = {number: name for name, number in enumerate(kept)}
    strict = [
        [
            (weight, length, names[target])
            for (weight, length, target), count in zip(moves[number], counts[number])
            if count == 0 and not lost[target]
        ]
        for number in kept
    ]
    # The first beat begins at a place of its own: there the guests may be away.
    strict.append([(0, 0, names[number]) for number in first])
    return mean_from(setup, (places, [owned[number] for number in kept] + [False], strict), len(kept))
