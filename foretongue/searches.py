"""The least couple of words that leads to what is sought, both read sound by sound."""


def least_at(nodes, sort_of):
    """For each sort the least couple among equally long words that lead to nodes of it."""
    met = {}
    for node, words in nodes.items():
        sort = sort_of(node)
        if sort is not None and (sort not in met or words < met[sort]):
            met[sort] = words
    return met


def nodes_behind(nodes, steps_from, seen):
    """The nodes one step behind that are not seen yet, each with the least couple that leads to it.

    A node is asked for once: longer words that lead to it again lead to nothing less.
    """
    behind = {}
    for node, (one, other) in nodes.items():
        for sound, beside, follow in steps_from(node):
            words = (one + sound, other + beside)
            if follow not in seen and (follow not in behind or words < behind[follow]):
                behind[follow] = words
    return behind


def least_couples(start, steps_from, sort_of, many):
    """For each sort the least couple of words that leads from the start to a node of this sort.

    The function steps_from tells of a node the triples of a sound of the one word, a sound of
    the other one, and the node behind; sort_of tells its sort, or None. The search ends as soon
    as so many sorts are met.
    """
    found = {}
    seen = {start: True}
    nodes = {start: ("", "")}
    while len(nodes) > 0 and len(found) < many:
        met = least_at(nodes, sort_of)
        for sort in met:
            found.setdefault(sort, met[sort])
        nodes = nodes_behind(nodes, steps_from, seen)
        for node in nodes:
            seen[node] = True
    return found
