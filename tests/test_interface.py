"""answers(calls): what is handed in, what is given back, and that nothing is kept."""

import inspect
import random
import unittest

from tests.helper import LAST, ask, branch, commit, common, doc, drop, head, joined, lines, listed, log, parents
from textbranches.histories import answers


def refuse_change(self, *args, **kwargs):
    raise AssertionError("the list that was handed in is changed")


class Untouched(list):
    """A list that can't be changed, not for a while either."""


for name in ("append", "clear", "extend", "insert", "pop", "remove", "reverse", "sort",
             "__setitem__", "__delitem__", "__iadd__", "__imul__"):
    setattr(Untouched, name, refuse_change)

MIXED = joined([
    commit(0, [[1, 2], []]), commit(0), branch(1, 0), commit(1, [[0], [255]]), common(1, 2), log(2), doc(2),
    commit(0, [[0] * 65]), head(5), drop(1), head(1), parents(2), doc(LAST), branch(LAST, 0),
])


class HandedIn(unittest.TestCase):
    def test_one_argument_called_calls(self):
        self.assertEqual(str(inspect.signature(answers)), "(calls)")
        self.assertEqual(answers(calls=commit(0)), [1, 0])

    def test_stays_as_it_was(self):
        calls = list(MIXED)
        answers(calls)
        self.assertEqual(calls, MIXED)

    def test_is_not_changed_for_a_while_either(self):
        self.assertEqual(answers(Untouched(MIXED)), answers(list(MIXED)))

    def test_one_call_alone(self):
        self.assertEqual(answers(commit(0)), [1, 0])
        self.assertEqual(answers(doc(0)), [1, -4])
        self.assertEqual(answers(head(8)), [1, -1])

    def test_behind_a_document_that_is_refused(self):
        self.assertEqual(ask(commit(0, [[4] * 100] * 100), commit(0, [[5]]), doc(0)), [[-1], [0], lines([[5]])])


class GivenBack(unittest.TestCase):
    def test_a_list_of_whole_numbers(self):
        told = answers(MIXED)
        self.assertIs(type(told), list)
        self.assertEqual({type(number) for number in told}, {int})

    def test_changing_it_changes_no_later_answer(self):
        told = answers(MIXED)
        kept = list(told)
        told.clear()
        self.assertEqual(answers(MIXED), kept)


class NothingKept(unittest.TestCase):
    def test_the_same_again(self):
        self.assertEqual(answers(MIXED), answers(MIXED))

    def test_each_time_the_object_is_new(self):
        answers(MIXED)
        self.assertEqual(ask(*[head(number) for number in range(8)], doc(0), commit(0), parents(0)),
                         [[-4]] * 9 + [[0], [0, 0]])

    def test_after_a_full_one(self):
        answers(joined([commit(0)] * 129))
        self.assertEqual(answers(commit(0)), [1, 0])


class Longest(unittest.TestCase):
    FULL_DOCUMENT = [[(line + place) % 256 for place in range(64)] for line in range(64)]

    def test_400_calls(self):
        calls = [commit(number % 8, [[number]]) for number in range(128)]
        calls += [log(number) for number in range(128)]
        calls += [common(number, 127) for number in range(128)]
        calls += [head(number) for number in range(8)]
        calls += [branch(number, 0) for number in range(8)]
        self.assertEqual(len(calls), 400)
        found = ask(*calls)
        self.assertEqual(found[:128], [[number] for number in range(128)])
        for number in range(128):
            self.assertEqual(found[128 + number], listed(*range(number, -1, -8)))
            self.assertEqual(found[256 + number], listed(number) if number % 8 == 7 else [0, 0])
        self.assertEqual(found[384:392], [[120 + number] for number in range(8)])
        self.assertEqual(found[392:], [[0]] * 8)

    def test_400_calls_over_the_longest_row_of_forebears(self):
        calls = [commit(0)] * 128 + [log(127), common(127, 126)] * 136
        found = ask(*calls)
        self.assertEqual(found[128:], [listed(*range(127, -1, -1)), listed(126)] * 136)

    def test_16000_numbers_in_400_calls(self):
        rest = [[8] * 64] * 29 + [[9] * 34]
        calls = [commit(0, self.FULL_DOCUMENT)] * 3 + [commit(1, rest)] + [doc(2)] * 395 + [doc(3)]
        self.assertEqual((len(calls), len(joined(calls))), (400, 16000))
        found = ask(*calls)
        self.assertEqual(found[:4], [[0], [1], [2], [3]])
        # Not assertEqual: telling where lists this long differ would take it minutes.
        self.assertTrue(found[4:399] == [lines(self.FULL_DOCUMENT)] * 395)
        self.assertEqual(found[399], lines(rest))

    def test_16000_numbers_in_few_calls(self):
        calls = [commit(0, [[3] * 100] * 100), commit(0, [[4] * 100] * 58), commit(0, [[]] * 26), doc(0)]
        self.assertEqual(len(joined(calls)), 16000)
        self.assertEqual(ask(*calls), [[-1], [-1], [0], lines([[]] * 26)])


class Plain:
    """The same calls, done on frozen values straight from the document's words."""

    def __init__(self):
        self.versions = ()
        self.heads = {}

    def forebears(self, version):
        found = {version}
        for parent in self.versions[version][1]:
            found |= self.forebears(parent)
        return found

    def commit(self, number, document):
        if number > 7 or len(document) > 64 or any(len(line) > 64 for line in document):
            return [-1]
        if len(self.versions) == 128:
            return [-6]
        before = (self.heads[number],) if number in self.heads else ()
        self.heads[number] = len(self.versions)
        self.versions += ((tuple(map(tuple, document)), before),)
        return [self.heads[number]]

    def branch(self, number, version):
        if number > 7 or version >= len(self.versions):
            return [-1] if number > 7 else [-4]
        self.heads[number] = version
        return [0]

    def drop(self, number):
        if number not in self.heads:
            return [-1] if number > 7 else [-4]
        del self.heads[number]
        return [0]

    def head(self, number):
        return [self.heads.get(number, -1 if number > 7 else -4)]

    def doc(self, version):
        return lines(self.versions[version][0]) if version < len(self.versions) else [-4]

    def parents(self, version):
        return listed(*self.versions[version][1]) if version < len(self.versions) else [-4]

    def log(self, version):
        return listed(*sorted(self.forebears(version))[::-1]) if version < len(self.versions) else [-4]

    def common(self, u, v):
        if max(u, v) >= len(self.versions):
            return [-4]
        shared = self.forebears(u) & self.forebears(v)
        nearest = [one for one in shared if not any(one in self.forebears(two) for two in shared - {one})]
        return listed(*sorted(nearest)[::-1])


class ByChance(unittest.TestCase):
    """Many calls in any order, against Plain; the same ones each time."""

    WRITERS = {"commit": commit, "branch": branch, "drop": drop, "head": head,
               "doc": doc, "parents": parents, "log": log, "common": common}

    def arguments(self, chance, name, versions):
        number = chance.choice([0, 0, 1, 1, 2, 3, 4, 5, 6, 7, 8, LAST])
        some = [chance.choice([chance.randrange(versions + 1), versions - 1 if versions else 0]) for turn in range(2)]
        if name == "commit":
            size = chance.choice([0, 1, 2, 3, 3, 65])
            return number, [[chance.randrange(256)] * chance.choice([0, 1, 2, 3]) for line in range(size)]
        if name == "branch":
            return number, some[0]
        if name in ("drop", "head"):
            return (number,)
        return tuple(some) if name == "common" else (some[0],)

    def test_against_plain(self):
        names = ["commit"] * 5 + ["branch"] * 3 + sorted(self.WRITERS)
        for seed in range(60):
            chance = random.Random(seed)
            plain = Plain()
            calls = []
            expected = []
            for turn in range(400):
                name = chance.choice(names)
                arguments = self.arguments(chance, name, len(plain.versions))
                calls.append(self.WRITERS[name](*arguments))
                expected.append(getattr(plain, name)(*arguments))
            self.assertEqual(ask(*calls), expected)


if __name__ == "__main__":
    unittest.main()
