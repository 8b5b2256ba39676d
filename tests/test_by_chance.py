"""All fifteen calls in any order, against the document's words done on frozen values."""

import functools
import random
import unittest

from tests import helper
from tests.helper import LAST, ask, clashes, lines, listed, steps


def frozen(document):
    return tuple(map(tuple, document))


@functools.lru_cache(None)
def best_kept(a, b):
    """The most lines that can be kept: dropped or kept first, wherever in b that line comes first."""
    if not a:
        return 0
    kept = 1 + best_kept(a[1:], b[b.index(a[0]) + 1:]) if a[0] in b else 0
    return max(kept, best_kept(a[1:], b))


@functools.lru_cache(None)
def plain_way(a, b):
    """The way as a text of k, d and a."""
    if not a or not b:
        return "d" * len(a) + "a" * len(b)
    if a[0] == b[0]:
        return "k" + plain_way(a[1:], b[1:])
    if best_kept(a[1:], b) >= best_kept(a, b[1:]):
        return "d" + plain_way(a[1:], b)
    return "a" + plain_way(a, b[1:])


def kept_from(a, b):
    """For each line of a its place in b, or None."""
    word = plain_way(a, b)
    places = []
    for place, step in enumerate(word):
        if step != "a":
            places.append(len(word[:place].replace("d", "")) if step == "k" else None)
    return places


def plain_merge(o, a, b):
    """The document, or a list of clashes."""
    fast = [(place, in_a, in_b) for place, (in_a, in_b) in enumerate(zip(kept_from(o, a), kept_from(o, b)))
            if in_a is not None and in_b is not None]
    starts = [(0, 0, 0)] + [tuple(one + 1 for one in places) for places in fast]
    ends = fast + [(len(o), len(a), len(b))]
    made = ()
    told = []
    for start, end in zip(starts, ends):
        of_o, of_a, of_b = [one[first:last] for one, first, last in zip((o, a, b), start, end)]
        if of_o != of_a and of_o != of_b and of_a != of_b:
            told.append([start[0], len(of_o), start[1], len(of_a), start[2], len(of_b)])
        made += (of_b if of_o == of_a else of_a) + o[end[0]:end[0] + 1]
    return told if told else made


class Plain:
    """One object; each call answers as a list of numbers."""

    def __init__(self):
        self.versions = ()
        self.heads = {}

    def forebears(self, version):
        found = {version}
        for parent in self.versions[version][1]:
            found |= self.forebears(parent)
        return found

    def make(self, number, document, before):
        if len(self.versions) == 128 or len(document) > 64:
            return [-6]
        self.heads[number] = len(self.versions)
        self.versions += ((frozen(document), before),)
        return [self.heads[number]]

    def commit(self, number, document):
        if number > 7 or len(document) > 64 or any(len(line) > 64 for line in document):
            return [-1]
        return self.make(number, document, (self.heads[number],) if number in self.heads else ())

    def branch(self, number, version):
        if number > 7 or version >= len(self.versions):
            return [-1] if number > 7 else [-4]
        self.heads[number] = version
        return [0]

    def drop(self, number):
        if number not in self.heads:
            return [-1] if number > 7 else [-4]
        del self.heads[number]
        return [0]

    def head(self, number):
        return [self.heads.get(number, -1 if number > 7 else -4)]

    def doc(self, version):
        return lines(self.versions[version][0]) if version < len(self.versions) else [-4]

    def parents(self, version):
        return listed(*self.versions[version][1]) if version < len(self.versions) else [-4]

    def log(self, version):
        return listed(*sorted(self.forebears(version))[::-1]) if version < len(self.versions) else [-4]

    def common(self, u, v):
        if max(u, v) >= len(self.versions):
            return [-4]
        return listed(*self.nearest(u, v))

    def nearest(self, u, v):
        shared = self.forebears(u) & self.forebears(v)
        nearest = [one for one in shared if not any(one in self.forebears(two) for two in shared - {one})]
        return sorted(nearest)[::-1]

    def way(self, u, v):
        if max(u, v) >= len(self.versions):
            return [-4]
        b = self.versions[v][0]
        word = plain_way(self.versions[u][0], b)
        added = [line for line, step in zip(b, word.replace("d", "")) if step == "a"]
        return steps(word.count("k"), word, added)

    def document_of_first(self, versions):
        return self.versions[versions[0]][0] if versions else ()

    def merged(self, number, o, b, before):
        found = plain_merge(o, self.versions[self.heads[number]][0], b)
        return clashes(*found) if isinstance(found, list) else self.make(number, found, before)

    def refusal(self, number, v):
        if number > 7:
            return [-1]
        return [-4] if number not in self.heads or v >= len(self.versions) else None

    def merge(self, number, v):
        if self.refusal(number, v):
            return self.refusal(number, v)
        u = self.heads[number]
        if v in self.forebears(u):
            return [u]
        if u in self.forebears(v):
            self.heads[number] = v
            return [v]
        return self.merged(number, self.document_of_first(self.nearest(u, v)), self.versions[v][0], (u, v))

    def pick(self, number, v):
        if self.refusal(number, v):
            return self.refusal(number, v)
        document, before = self.versions[v]
        return self.merged(number, self.document_of_first(before), document, (self.heads[number],))

    def undo(self, number, v):
        if self.refusal(number, v):
            return self.refusal(number, v)
        document, before = self.versions[v]
        return self.merged(number, document, self.document_of_first(before), (self.heads[number],))

    def attempt(self, *three):
        if any(len(one) > 64 or any(len(line) > 64 for line in one) for one in three):
            return [-1]
        found = plain_merge(*map(frozen, three))
        if isinstance(found, list):
            return clashes(*found)
        return [-6] if len(found) > 64 else lines(found)

    def came_in(self, version, place):
        document, before = self.versions[version]
        for parent in before:
            kept = kept_from(self.versions[parent][0], document)
            if place in kept:
                return self.came_in(parent, kept.index(place))
        return version

    def origins(self, version):
        if version >= len(self.versions):
            return [-4]
        return listed(*[self.came_in(version, place) for place in range(len(self.versions[version][0]))])

    def count(self):
        return [len(self.versions), 8, *[self.heads.get(number, -1) + 1 for number in range(8)]]


class ByChance(unittest.TestCase):
    """The same calls each time."""

    NAMES = ["commit", "branch", "drop", "head", "doc", "parents", "log", "common", "way", "merge", "pick", "undo",
             "attempt", "origins", "count"]
    BRANCHES = [0, 1, 2] * 10 + [3, 4, 5, 6, 7, 8, LAST]

    def changed(self, chance, document):
        """The same with some lines taken out and some put in, of few kinds, so that many are the same."""
        document = list(document)
        for turn in range(chance.choice([0, 0, 0, 1, 1, 2, 3])):
            place = chance.randrange(len(document) + 1)
            added = [[chance.choice([7, 8, 9])] * chance.choice([0, 1, 1, 2]) for line in range(chance.randrange(3))]
            document[place:place + chance.randrange(2)] = added
        return document[:12]

    def some_document(self, chance, plain):
        if chance.random() < 0.02:
            return chance.choice([[[]] * 65, [[1] * 65], [[2]] * 64])
        if not plain.versions or chance.random() < 0.03:
            return [[chance.randrange(256)] for line in range(chance.randrange(7))]
        return self.changed(chance, chance.choice(plain.versions[-12:])[0])

    def some_version(self, chance, plain):
        versions = len(plain.versions)
        return chance.choice([chance.randrange(versions + 1), chance.randrange(max(versions - 6, 0), versions + 1)])

    def arguments(self, chance, name, plain):
        if name == "count":
            return ()
        if name == "attempt":
            o = self.some_document(chance, plain)
            return o, self.changed(chance, o), self.changed(chance, o)
        if name == "commit":
            return chance.choice(self.BRANCHES), self.some_document(chance, plain)
        if name in ("drop", "head"):
            return (chance.choice(self.BRANCHES),)
        if name in ("branch", "merge", "pick", "undo"):
            return chance.choice(self.BRANCHES), self.some_version(chance, plain)
        versions = [self.some_version(chance, plain), self.some_version(chance, plain)]
        return tuple(versions) if name in ("common", "way") else (versions[0],)

    def run_of_calls(self, seed, made):
        chance = random.Random(seed)
        plain = Plain()
        names = self.NAMES + ["commit", "merge", "merge", "common"] * made
        calls = []
        expected = []
        for turn in range(300):
            name = chance.choice(names)
            arguments = self.arguments(chance, name, plain)
            calls.append(getattr(helper, name)(*arguments))
            expected.append(getattr(plain, name)(*arguments))
        return calls, expected

    def test_against_plain(self):
        merged = 0
        several = 0
        for seed in range(240):
            calls, expected = self.run_of_calls(seed, seed % 5)
            self.assertEqual(ask(*calls), expected)
            merged += sum(call[0] == 9 and told[0] >= 0 for call, told in zip(calls, expected))
            several += sum(call[0] == 7 and told[0] > 1 for call, told in zip(calls, expected))
        # Else what is meant to be met here is not.
        self.assertGreater(merged, 1000)
        self.assertGreater(several, 30)


if __name__ == "__main__":
    unittest.main()
