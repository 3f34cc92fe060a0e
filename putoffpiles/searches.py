"""Searches: the least of the shortest ways, and what leads to what and back."""


def by_place(states):
    """Lists of the states, each a tuple with its place first, for each place, the least place ahead."""
    found = {}
    for state in states:
        found.setdefault(state[0], []).append(state)
    return [found[place] for place in sorted(found)]


def least_path(begins, goes, ends):
    """The list of states along the least of the shortest ways from one that begins to one that ends, or None.

    A state is a tuple with its place first; goes(state) tells the states next to one, ends(state) whether it ends.
    Ways are compared by their places alone.
    """
    ahead_of = {state: None for state in begins}
    # States to which the same way leads stand in one list, so that the order of the lists is that of the ways.
    groups = by_place(list(ahead_of))
    at = 0
    while at < len(groups):
        beyond = []
        for state in groups[at]:
            if ends(state):
                return path_to(state, ahead_of)
            for after in goes(state):
                if after not in ahead_of:
                    ahead_of[after] = state
                    beyond.append(after)
        groups.extend(by_place(beyond))
        at += 1
    return None


def path_to(state, ahead_of):
    """The list of states that leads to a state, from one that has none ahead of it."""
    found = []
    while state is not None:
        found.append(state)
        state = ahead_of[state]
    return found[::-1]


def places_of(path):
    """The way along a path."""
    return tuple([state[0] for state in path])


def deepest_first(leads):
    """All keys of a dict that tells to which keys each leads, each behind those, but for what leads back to it."""
    found = []
    seen = {}
    for begin in leads:
        ahead = [(begin, False)]
        while ahead:
            key, over = ahead.pop()
            if over:
                found.append(key)
            elif key not in seen:
                seen[key] = True
                ahead.append((key, True))
                ahead.extend([(each, False) for each in leads[key]])
    return found


def turned(leads):
    """For each key the list of the keys that lead to it."""
    found = {key: [] for key in leads}
    for key in leads:
        for after in leads[key]:
            found[after].append(key)
    return found


def knots_of(leads):
    """For each key the number of its knot: the keys to which it leads and that lead back to it."""
    backs = turned(leads)
    found = {}
    for begin in deepest_first(leads)[::-1]:
        # All that leads to this key and has no knot yet can be led to from it, too.
        number = len(found)
        ahead = [begin]
        while ahead:
            key = ahead.pop()
            if key not in found:
                found[key] = number
                ahead.extend(backs[key])
    return found
