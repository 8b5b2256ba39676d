"""Forebears of versions; parents is a list with the parents of each version, all lower than it."""


def forebears_of(parents, version):
    """The version itself, its parents, theirs, and so on, the highest first."""
    reached = {version: True}
    found = []
    # Parents are lower, so on the way down all that lead to a version come before it.
    for number in range(version, -1, -1):
        if number in reached:
            found.append(number)
            for parent in parents[number]:
                reached[parent] = True
    return found


def nearest_in_common(parents, u, v):
    """The forebears of both that aren't forebears of another such one, the highest first."""
    of_v = forebears_of(parents, v)
    shared = [number for number in forebears_of(parents, u) if number in of_v]
    # Forebears of a shared version are shared, too: so whatever is a forebear
    # of another shared version is a parent of some shared one.
    passed = {}
    for number in shared:
        for parent in parents[number]:
            passed[parent] = True
    return [number for number in shared if number not in passed]
