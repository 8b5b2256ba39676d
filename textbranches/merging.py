"""Documents merged three ways: a and b that come from o."""

from textbranches.ways import kept_places
from textbranches.ways import way_between


class Merged:
    """The clashes, six numbers each, one behind another; the document is whole only if there are none."""

    def __init__(self):
        self.clashes = []
        self.document = []


def standing_fast(o, a, b):
    """Of each line of o that both ways keep: its places in o, in a, in b."""
    in_b = {}
    for i, j in kept_places(way_between(o, b)):
        in_b[i] = j
    return [(i, j, in_b[i]) for i, j in kept_places(way_between(o, a)) if i in in_b]


def settled(of_o, of_a, of_b):
    """The lines that a part comes to, or None if it clashes."""
    if of_a == of_o:
        return of_b
    if of_b == of_o or of_a == of_b:
        return of_a
    return None


def merged_from(o, a, b):
    merged = Merged()
    starts = (0, 0, 0)
    # The places behind the last lines close the last part, as if a line stood fast there.
    for i, j, k in standing_fast(o, a, b) + [(len(o), len(a), len(b))]:
        of_o = o[starts[0]:i]
        of_a = a[starts[1]:j]
        of_b = b[starts[2]:k]
        part = settled(of_o, of_a, of_b)
        if part is None:
            merged.clashes.extend([starts[0], len(of_o), starts[1], len(of_a), starts[2], len(of_b)])
        else:
            merged.document.extend(part + o[i:i + 1])
        starts = (i + 1, j + 1, k + 1)
    return merged
