"""The bench: how a seat rule fills it at a beat, from the line of groups and the line of singles."""

NOBODY = ((), 0, 0)


def fitting_row(rule, mood, looks, deeds):
    """The index of the first row of a half's rule that fits, None if none does.

    looks are what the four spans of a row look at, deeds those that can be done.
    """
    for index, row in enumerate(rule):
        if row[0] == mood and row[5] in deeds and within(looks, row[1:5]):
            return index
    return None


def within(looks, spans):
    """Whether each number is from low to high of its span."""
    for look, (low, high) in zip(looks, spans):
        if look < low or look > high:
            return False
    return True


def come_in(setup, line, singles, comers):
    """The tuple (line, singles, away) after comers went behind those who wait, as long as there is room."""
    groups, coming = comers
    away = 0
    for size in groups:
        if len(line) < setup[2][0]:
            line = line + (size,)
        else:
            away += size
    found = min(coming, setup[2][1] - singles)
    return (line, singles + found, away + coming - found)


def bench_deeds(line, singles, left):
    """The tuple of the deeds that can be done at a bench with so many seats left: group, single, go."""
    deeds = ("go",)
    if singles > 0 and left > 0:
        deeds = ("single",) + deeds
    if line and line[0] <= left:
        deeds = ("group",) + deeds
    return deeds


def fill_bench(setup, rule, standing, portions):
    """The tuple (standing, deeds, empty, used): how the bench is filled, and the rows carried out.

    portions is how many are open. used lists the indexes of the rows.
    """
    line, singles, mood = standing
    left = setup[0]
    deeds = []
    used = []
    while True:
        looks = (line[0] if line else 0, left, singles, portions)
        index = fitting_row(rule, mood, looks, bench_deeds(line, singles, left))
        if index is None:
            break
        used.append(index)
        mood = rule[index][6]
        deed = rule[index][5]
        if deed == "go":
            break
        size = 1
        if deed == "group":
            size = line[0]
            line = line[1:]
        else:
            singles -= 1
        left -= size
        deeds.append((deed, size))
    return ((line, singles, mood), tuple(deeds), left if line or singles > 0 else 0, used)


def bench_beat(setup, rule, standing, comers, portions):
    """The tuple (standing, told, used) of a beat: the standing after it, and what the seats tell of it."""
    line, singles, away = come_in(setup, standing[0], standing[1], comers)
    after, deeds, empty, used = fill_bench(setup, rule, (line, singles, standing[2]), portions)
    return (after, (deeds, empty, away), used)


def seated(deeds):
    """How many guests sat by deeds of the bench."""
    return sum([size for _, size in deeds])


def seated_kind(deeds, what):
    """How many groups, or singles, sat by deeds of the bench."""
    return len([deed for deed, _ in deeds if deed == what])
