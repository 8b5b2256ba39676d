"""The way from one document to another: steps that keep, drop and add lines, from the front on."""

KEPT = 0
DROPPED = 1
ADDED = 2


def most_kept(a, b):
    """most[i][j]: the most lines that can be kept from a's lines from i on to b's from j on."""
    most = [[0] * (len(b) + 1) for place in range(len(a) + 1)]
    for i in range(len(a) - 1, -1, -1):
        for j in range(len(b) - 1, -1, -1):
            if a[i] == b[j]:
                most[i][j] = most[i + 1][j + 1] + 1
            else:
                most[i][j] = max(most[i + 1][j], most[i][j + 1])
    return most


def way_between(a, b):
    """The steps of the way from a to b."""
    most = most_kept(a, b)
    steps = []
    i = 0
    j = 0
    while i < len(a) and j < len(b):
        if a[i] == b[j]:
            steps.append(KEPT)
            i = i + 1
            j = j + 1
        elif most[i + 1][j] >= most[i][j + 1]:
            steps.append(DROPPED)
            i = i + 1
        else:
            steps.append(ADDED)
            j = j + 1
    return steps + [DROPPED] * (len(a) - i) + [ADDED] * (len(b) - j)


def kept_places(steps):
    """Of each line that the steps keep: its place in the first document, then that in the second."""
    places = []
    i = 0
    j = 0
    for step in steps:
        if step == KEPT:
            places.append((i, j))
        if step != ADDED:
            i = i + 1
        if step != DROPPED:
            j = j + 1
    return places


def added_lines(steps, b):
    """The lines of b that the steps to it add."""
    made = [step for step in steps if step != DROPPED]
    return [b[j] for j in range(len(b)) if made[j] == ADDED]
