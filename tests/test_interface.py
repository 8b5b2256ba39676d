"""answers(calls): what is handed in, what is given back, and that nothing is kept."""

import inspect
import unittest

from tests.helper import (LAST, ask, attempt, branch, clashes, commit, common, count, doc, drop, head, joined, lines,
                          listed, log, merge, origins, parents, pick, steps, text, undo, way)
from textbranches.histories import answers


def refuse_change(self, *args, **kwargs):
    raise AssertionError("the list that was handed in is changed")


class Untouched(list):
    """A list that can't be changed, not for a while either."""


for name in ("append", "clear", "extend", "insert", "pop", "remove", "reverse", "sort",
             "__setitem__", "__delitem__", "__iadd__", "__imul__"):
    setattr(Untouched, name, refuse_change)

CALLS = [
    commit(0, [[1, 2], []]), commit(0), branch(1, 0), commit(1, [[0], [255]]), common(1, 2), log(2), doc(2),
    commit(0, [[0] * 65]), head(5), drop(1), head(1), parents(2), doc(LAST), branch(LAST, 0),
    branch(1, 0), commit(1, [[1, 2], [], [3]]), branch(2, 0), commit(2, [[4], [1, 2], []]), merge(1, 4), merge(1, 4),
    way(3, 4), way(4, 3), origins(5), undo(1, 5), pick(1, 3), pick(2, 2), merge(2, 1), merge(0, LAST), doc(6), log(7),
    attempt([[1], [2]], [[3], [1], [2]], [[1]]), attempt([[1]], [[2]], [[3]]), attempt([[1]] * 65, [], []), count(),
]
MIXED = joined(CALLS)


class HandedIn(unittest.TestCase):
    def test_one_argument_called_calls(self):
        self.assertEqual(str(inspect.signature(answers)), "(calls)")
        self.assertEqual(answers(calls=commit(0)), [1, 0])

    def test_stays_as_it_was(self):
        calls = list(MIXED)
        answers(calls)
        self.assertEqual(calls, MIXED)

    def test_each_call_is_asked(self):
        self.assertEqual({call[0] for call in CALLS}, set(range(15)))
        self.assertEqual({told[0] for told in ask(*CALLS) if told[0] < 0}, {-1, -3, -4})

    def test_is_not_changed_for_a_while_either(self):
        self.assertEqual(answers(Untouched(MIXED)), answers(list(MIXED)))

    def test_one_call_alone(self):
        self.assertEqual(answers(commit(0)), [1, 0])
        self.assertEqual(answers(doc(0)), [1, -4])
        self.assertEqual(answers(head(8)), [1, -1])
        self.assertEqual(answers(way(0, 0)), [1, -4])
        self.assertEqual(answers(merge(0, 0)), [1, -4])
        self.assertEqual(answers(attempt([], [], [])), [1, 0])
        self.assertEqual(answers(count()), [10, 0, 8] + [0] * 8)

    def test_behind_a_document_that_is_refused(self):
        self.assertEqual(ask(commit(0, [[4] * 100] * 100), commit(0, [[5]]), doc(0)), [[-1], [0], lines([[5]])])


class GivenBack(unittest.TestCase):
    def test_a_list_of_whole_numbers(self):
        told = answers(MIXED)
        self.assertIs(type(told), list)
        self.assertEqual({type(number) for number in told}, {int})

    def test_changing_it_changes_no_later_answer(self):
        told = answers(MIXED)
        kept = list(told)
        told.clear()
        self.assertEqual(answers(MIXED), kept)


class NothingKept(unittest.TestCase):
    def test_the_same_again(self):
        self.assertEqual(answers(MIXED), answers(MIXED))

    def test_each_time_the_object_is_new(self):
        answers(MIXED)
        self.assertEqual(ask(*[head(number) for number in range(8)], doc(0), commit(0), parents(0)),
                         [[-4]] * 9 + [[0], [0, 0]])
        self.assertEqual(answers(count()), [10, 0, 8] + [0] * 8)

    def test_after_a_full_one(self):
        answers(joined([commit(0)] * 129))
        self.assertEqual(answers(commit(0)), [1, 0])


class Longest(unittest.TestCase):
    FULL_DOCUMENT = [[(line + place) % 256 for place in range(64)] for line in range(64)]

    def test_400_calls(self):
        calls = [commit(number % 8, [[number]]) for number in range(128)]
        calls += [log(number) for number in range(128)]
        calls += [common(number, 127) for number in range(128)]
        calls += [head(number) for number in range(8)]
        calls += [branch(number, 0) for number in range(8)]
        self.assertEqual(len(calls), 400)
        found = ask(*calls)
        self.assertEqual(found[:128], [[number] for number in range(128)])
        for number in range(128):
            self.assertEqual(found[128 + number], listed(*range(number, -1, -8)))
            self.assertEqual(found[256 + number], listed(number) if number % 8 == 7 else [0, 0])
        self.assertEqual(found[384:392], [[120 + number] for number in range(8)])
        self.assertEqual(found[392:], [[0]] * 8)

    def test_400_calls_over_the_longest_row_of_forebears(self):
        calls = [commit(0)] * 128 + [log(127), common(127, 126)] * 136
        found = ask(*calls)
        self.assertEqual(found[128:], [listed(*range(127, -1, -1)), listed(126)] * 136)

    def test_16000_numbers_in_400_calls(self):
        rest = [[8] * 64] * 29 + [[9] * 34]
        calls = [commit(0, self.FULL_DOCUMENT)] * 3 + [commit(1, rest)] + [doc(2)] * 395 + [doc(3)]
        self.assertEqual((len(calls), len(joined(calls))), (400, 16000))
        found = ask(*calls)
        self.assertEqual(found[:4], [[0], [1], [2], [3]])
        # Not assertEqual: telling where lists this long differ would take it minutes.
        self.assertTrue(found[4:399] == [lines(self.FULL_DOCUMENT)] * 395)
        self.assertEqual(found[399], lines(rest))

    def test_16000_numbers_in_few_calls(self):
        calls = [commit(0, [[3] * 100] * 100), commit(0, [[4] * 100] * 58), commit(0, [[]] * 26), doc(0)]
        self.assertEqual(len(joined(calls)), 16000)
        self.assertEqual(ask(*calls), [[-1], [-1], [0], lines([[]] * 26)])


class LongestOfAll(unittest.TestCase):
    """128 versions of 64 lines, asked over and over; every two lines differ in their last byte alone."""

    FIRST = [[1] * 63 + [number] for number in range(64)]
    OTHER = [[1] * 63 + [100 + number] for number in range(64)]
    NEAR = FIRST[:32] + [[1] * 63 + [200]] + FIRST[33:]

    # 0 and all that are picked on branch 0 have FIRST, 1 on branch 1 has OTHER, 2 on branch 2 has NEAR.
    MADE = [commit(0, FIRST), commit(1, OTHER), branch(2, 0), commit(2, NEAR)] + [pick(0, 0)] * 125

    def test_made(self):
        self.assertEqual(ask(*self.MADE, count(), doc(127), parents(127), origins(127))[3:], [
            *[[number] for number in range(2, 128)], [128, 8, 128, 2, 3, 0, 0, 0, 0, 0], lines(self.FIRST),
            listed(126), listed(*[0] * 64)])

    def same(self, asked, expected):
        turns = (400 - len(self.MADE)) // len(asked)
        calls = self.MADE + asked * turns
        calls += [count()] * (400 - len(calls))
        self.assertLessEqual(len(joined(calls)), 16000)
        told = ask(*calls)[len(self.MADE):][:len(asked) * turns]
        # Not assertEqual: telling where lists this long differ would take it minutes.
        self.assertTrue(told == expected * turns)

    def test_way(self):
        self.same([way(0, 1), way(127, 2), way(0, 127)], [
            steps(0, "d" * 64 + "a" * 64, self.OTHER),
            steps(63, "k" * 32 + "da" + "k" * 31, [self.NEAR[32]]),
            steps(64, "k" * 64)])

    def test_merge(self):
        self.same([merge(1, 127), merge(0, 1), merge(0, 0), merge(2, 127), merge(0, 2), pick(0, 2), undo(0, 2)], [
            clashes((0, 0, 0, 64, 0, 64)), clashes((0, 0, 0, 64, 0, 64)), [127], [-6], [-6], [-6], [-6]])

    def test_origins(self):
        self.same([origins(127), origins(64), origins(2)], [
            listed(*[0] * 64), listed(*[0] * 64), listed(*[0] * 32, 2, *[0] * 31)])

    def test_all_in_turn(self):
        self.same([way(1, 0), merge(1, 0), origins(126), log(127), common(127, 2), head(0)], [
            steps(0, "d" * 64 + "a" * 64, self.FIRST), clashes((0, 0, 0, 64, 0, 64)), listed(*[0] * 64),
            listed(*range(127, 2, -1), 0), listed(0), [127]])

    def test_versions_that_merge_in_turn(self):
        calls = [commit(0, text("ab")), branch(1, 0)]
        for first in range(1, 127, 3):
            calls += [commit(0, [[first]]), commit(1, [[first]]), merge(0, first + 1), branch(1, first - 1)]
        found = ask(*calls, *[origins(number) for number in range(127)], *[log(126)] * 103)
        self.assertEqual(len(found), 400)
        self.assertEqual(found[170], listed(0, 0))
        for first in range(1, 127, 3):
            self.assertEqual(found[170 + first:173 + first], [listed(first), listed(first + 1), listed(first)])
        self.assertEqual(found[297:], [listed(*range(126, -1, -1))] * 103)

    def test_400_tries(self):
        o = text("abcdef")
        found = ask(*[attempt(o, text("xabcdef"), text("abcdefy"))] * 200, *[attempt(o, text("x"), text("y"))] * 200)
        self.assertEqual(found, [lines(text("xabcdefy"))] * 200 + [clashes((0, 6, 0, 1, 0, 1))] * 200)

    def test_16000_numbers_of_try(self):
        large = [[3] * 64] * 64
        calls = [attempt(large, large, large), attempt([], large[:54], [])]
        self.assertEqual(len(joined(calls)), 16000)
        self.assertEqual(ask(*calls), [lines(large), lines(large[:54])])


if __name__ == "__main__":
    unittest.main()
