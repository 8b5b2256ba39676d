"""log and common, and H4."""

import random
import unittest

from tests.helper import ask, ask_last, branch, commit, common, drop, listed, log, merge, pick, undo
from textbranches.forebears import forebears_of, nearest_in_common

# 0 - 1 - 2 on branch 0; 3 and 5 from 1 on branch 1; 4 alone on branch 2; 6 from 0 on branch 3
TREE = [commit(0), commit(0), commit(0), branch(1, 1), commit(1), commit(2), commit(1), branch(3, 0), commit(3)]


def forebears_by_words(parents, version):
    found = {version}
    for parent in parents[version]:
        found |= forebears_by_words(parents, parent)
    return found


def nearest_by_words(parents, u, v):
    shared = forebears_by_words(parents, u) & forebears_by_words(parents, v)
    nearest = [
        one for one in shared
        if not any(one in forebears_by_words(parents, other) for other in shared if other != one)
    ]
    return sorted(nearest, reverse=True)


class Log(unittest.TestCase):
    def test_a_version_alone(self):
        self.assertEqual(ask_last(*TREE, log(0)), listed(0))
        self.assertEqual(ask_last(*TREE, log(4)), listed(4))

    def test_the_highest_first(self):
        self.assertEqual(ask_last(*TREE, log(2)), listed(2, 1, 0))
        self.assertEqual(ask_last(*TREE, log(5)), listed(5, 3, 1, 0))
        self.assertEqual(ask_last(*TREE, log(6)), listed(6, 0))

    def test_all_128(self):
        found = ask_last(*[commit(0)] * 128, log(127))
        self.assertEqual(found, listed(*range(127, -1, -1)))

    def test_moved_back_and_committed_on_again(self):
        found = ask(commit(0), commit(0), branch(0, 0), commit(0), log(1), log(2))
        self.assertEqual(found[4:], [listed(1, 0), listed(2, 0)])

    def test_dropped_and_committed_on_again(self):
        found = ask(commit(0), commit(0), drop(0), commit(0), commit(0), log(3))
        self.assertEqual(found[-1], listed(3, 2))


class Common(unittest.TestCase):
    def told(self, u, v):
        one = ask_last(*TREE, common(u, v))
        self.assertEqual(one, ask_last(*TREE, common(v, u)))
        return one

    def test_with_itself(self):
        for version in range(7):
            self.assertEqual(self.told(version, version), listed(version))

    def test_with_a_forebear(self):
        self.assertEqual(self.told(2, 1), listed(1))
        self.assertEqual(self.told(2, 0), listed(0))
        self.assertEqual(self.told(5, 1), listed(1))

    def test_of_two_that_went_apart(self):
        self.assertEqual(self.told(2, 3), listed(1))
        self.assertEqual(self.told(2, 5), listed(1))
        self.assertEqual(self.told(5, 6), listed(0))

    def test_none_in_common(self):
        self.assertEqual(self.told(0, 4), [0, 0])
        self.assertEqual(self.told(5, 4), [0, 0])

    def test_a_branch_moved_back(self):
        found = ask(commit(0), commit(0), commit(0), branch(0, 1), commit(0), common(2, 3))
        self.assertEqual(found[-1], listed(1))

    def test_over_128_versions(self):
        calls = [commit(0)] * 64 + [branch(1, 63)] + [commit(0), commit(1)] * 32
        self.assertEqual(ask_last(*calls, common(126, 127)), listed(63))
        self.assertEqual(ask_last(*calls, common(0, 127)), listed(0))


class Merged(unittest.TestCase):
    """Versions that merge, pick and undo made."""

    # 1 on branch 0 and 2 on branch 1 come from 0; 3 and 4 are each merged of both; 5 and 6 come from these.
    CROSSED = [commit(0), branch(1, 0), commit(0), commit(1), branch(2, 1), merge(0, 2), merge(1, 1), commit(0),
               commit(1)]

    def test_forebears_through_both_parents(self):
        found = ask(*self.CROSSED, *[log(version) for version in range(7)])[9:]
        self.assertEqual(found, [listed(0), listed(1, 0), listed(2, 0), listed(3, 2, 1, 0), listed(4, 2, 1, 0),
                                 listed(5, 3, 2, 1, 0), listed(6, 4, 2, 1, 0)])

    def test_several_nearest_the_highest_first(self):
        found = ask(*self.CROSSED, common(3, 4), common(4, 3), common(5, 6), common(6, 3))[9:]
        self.assertEqual(found, [listed(2, 1)] * 4)

    def test_merged_of_those_with_several(self):
        found = ask(*self.CROSSED, merge(0, 6), log(7), common(7, 6), common(7, 2))[9:]
        self.assertEqual(found, [[7], listed(7, 6, 5, 4, 3, 2, 1, 0), listed(6), listed(2)])

    def test_none_in_common_until_merged(self):
        found = ask(commit(0), commit(1), common(0, 1), merge(0, 1), log(2), common(2, 1), common(0, 1))
        self.assertEqual(found[2:], [[0, 0], [2], listed(2, 1, 0), listed(1), [0, 0]])

    def test_what_was_picked_or_undone_is_no_parent(self):
        found = ask(*self.CROSSED, pick(2, 6), log(7), undo(2, 6), log(8), common(8, 6))[9:]
        self.assertEqual(found, [[7], listed(7, 1, 0), [8], listed(8, 7, 1, 0), listed(1)])


class TwoParents(unittest.TestCase):
    """Versions with two parents, given as a list of parents."""

    CROSSED = [[], [0], [0], [1, 2], [2, 1], [3], [4]]

    def test_forebears_are_told_once(self):
        self.assertEqual(forebears_of(self.CROSSED, 3), [3, 2, 1, 0])
        self.assertEqual(forebears_of(self.CROSSED, 6), [6, 4, 2, 1, 0])

    def test_several_are_nearest_the_highest_first(self):
        self.assertEqual(nearest_in_common(self.CROSSED, 3, 4), [2, 1])
        self.assertEqual(nearest_in_common(self.CROSSED, 6, 5), [2, 1])

    def test_one_that_is_a_parent_of_both_but_not_nearest(self):
        parents = [[], [0], [0, 1], [1, 0]]
        self.assertEqual(nearest_in_common(parents, 2, 3), [1])

    def test_two_that_begin_apart(self):
        parents = [[], [], [0, 1], [1, 0]]
        self.assertEqual(nearest_in_common(parents, 2, 3), [1, 0])

    def test_parents_stay_as_they_were(self):
        parents = [list(one) for one in self.CROSSED]
        nearest_in_common(parents, 5, 6)
        self.assertEqual(parents, self.CROSSED)

    def test_as_the_words_say(self):
        chance = random.Random(4)
        for turn in range(60):
            parents = []
            for version in range(12):
                most = min(version, chance.choice([0, 1, 1, 2, 2, 2]))
                parents.append(chance.sample(range(version), most))
            for u in range(12):
                self.assertEqual(forebears_of(parents, u), sorted(forebears_by_words(parents, u), reverse=True))
                for v in range(12):
                    self.assertEqual(nearest_in_common(parents, u, v), nearest_by_words(parents, u, v))

    def test_128_with_two_parents_each(self):
        parents = [[], [0]] + [[version - 1, version - 2] for version in range(2, 128)]
        self.assertEqual(forebears_of(parents, 127), list(range(127, -1, -1)))
        self.assertEqual(nearest_in_common(parents, 127, 126), [126])


if __name__ == "__main__":
    unittest.main()
