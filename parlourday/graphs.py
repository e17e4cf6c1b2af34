"""Searches in whatever leads from place to place."""


def search(start, leads):
    """How each place is first met from a start, by shortest ways, the first ones as lists compare.

    leads(place) lists the places to which a place leads. The dict that is returned has the places
    as keys, in the order in which they are met, and (place ahead, index) as values, None for start.
    """
    steps = {start: None}
    found = [start]
    at = 0
    while at < len(found):
        place = found[at]
        at += 1
        for index, target in enumerate(leads(place)):
            if target not in steps:
                steps[target] = (place, index)
                found.append(target)
    return steps


def walk_back(steps, place):
    """The list of indexes by which a search met a place."""
    walk = []
    while steps[place] is not None:
        place, index = steps[place]
        walk.append(index)
    return walk[::-1]


def finished(leads, roots):
    """The nodes met from the roots, each one behind what it leads to (rings left aside)."""
    order = []
    known = [False] * len(leads)
    for root in roots:
        stack = [] if known[root] else [(root, 0)]
        known[root] = True
        while stack:
            node, at = stack.pop()
            if at == len(leads[node]):
                order.append(node)
                continue
            stack.append((node, at + 1))
            target = leads[node][at]
            if not known[target]:
                known[target] = True
                stack.append((target, 0))
    return order


def leads_turned(leads, nodes):
    """For each node the nodes, of those given, that lead to it."""
    backs = [[] for _ in leads]
    for node in nodes:
        for target in leads[node]:
            backs[target].append(node)
    return backs


def gather(backs, root, known):
    """The nodes that lead to a root and are not known yet; they are known then."""
    members = [root]
    known[root] = True
    at = 0
    while at < len(members):
        node = members[at]
        at += 1
        for source in backs[node]:
            if not known[source]:
                known[source] = True
                members.append(source)
    return members


def parts_of(leads, roots):
    """The parts of what is met from the roots, a part ahead of those that lead to it.

    leads is a list with, for each node, the list of the nodes to which it leads. A part is a list
    of all nodes that lead to one another.
    """
    order = finished(leads, roots)
    backs = leads_turned(leads, order)
    known = [False] * len(leads)
    parts = []
    for root in order[::-1]:
        if not known[root]:
            parts.append(gather(backs, root, known))
    return parts[::-1]


def part_numbers(parts, size):
    """For each of so many nodes the number of its part, None if it is in none."""
    numbers = [None] * size
    for number, members in enumerate(parts):
        for node in members:
            numbers[node] = number
    return numbers
