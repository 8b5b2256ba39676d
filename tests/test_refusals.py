"""Each refusal, which comes first where several hold, and that it changes nothing."""

import unittest

from tests.helper import LAST, ask, branch, commit, common, doc, drop, everything, head, listed, log, parents

SOME = [commit(0, [[1]]), commit(0, [[2]]), branch(1, 0), commit(1, [[3]]), branch(2, 1)]
FULL = [commit(number % 7, [[number]]) for number in range(128)]
TOO_MANY_LINES = [[]] * 65
TOO_LONG_A_LINE = [[0] * 65]


class Refused(unittest.TestCase):
    def refused(self, before, versions, call, number):
        """The call answers the number alone, and all that can be asked is as without it."""
        behind = everything(versions)
        if versions < 128:
            behind += [commit(0, [[9]]), commit(5, [[9]]), parents(versions), parents(versions + 1)]
        without = ask(*before, *behind)
        found = ask(*before, call, *behind)
        self.assertEqual(found[len(before)], [number])
        self.assertEqual(found[:len(before)] + found[len(before) + 1:], without)

    def refused_wherever(self, call, number):
        self.refused([], 0, call, number)
        self.refused(SOME, 3, call, number)
        self.refused(FULL, 128, call, number)


class Unfit(Refused):
    def test_branches_above_7(self):
        for number in (8, 9, 127, 255, 256, 2 ** 63, LAST):
            for call in (commit(number, [[1]]), branch(number, 0), drop(number), head(number)):
                self.refused_wherever(call, -1)

    def test_65_lines(self):
        self.refused_wherever(commit(0, TOO_MANY_LINES), -1)
        self.refused_wherever(commit(0, [[number] for number in range(65)]), -1)

    def test_a_line_of_65_bytes(self):
        self.refused_wherever(commit(0, TOO_LONG_A_LINE), -1)
        self.refused_wherever(commit(0, [[1], [0] * 65, [1]]), -1)
        self.refused_wherever(commit(0, [[]] * 63 + [[255] * 65]), -1)

    def test_the_most_that_is_handed_in(self):
        self.refused_wherever(commit(0, [[7] * 100] * 100), -1)

    def test_edges_that_fit(self):
        self.assertEqual(ask(commit(7, [[]] * 64), commit(7, [[0] * 64])), [[0], [1]])

    def test_ahead_of_no_such_version(self):
        for version in (0, 3, 128, LAST):
            self.refused([], 0, branch(8, version), -1)
            self.refused(SOME, 3, branch(LAST, version), -1)

    def test_ahead_of_too_many_versions(self):
        self.refused(FULL, 128, commit(8, [[1]]), -1)
        self.refused(FULL, 128, commit(LAST), -1)
        self.refused(FULL, 128, commit(0, TOO_MANY_LINES), -1)
        self.refused(FULL, 128, commit(0, TOO_LONG_A_LINE), -1)

    def test_both_at_once(self):
        self.refused_wherever(commit(8, TOO_MANY_LINES), -1)


class Missing(Refused):
    def no_such(self, before, versions, version):
        calls = [doc(version), parents(version), log(version), common(version, version)]
        calls += [branch(0, version), branch(7, version)]
        if versions > 0:
            calls += [common(0, version), common(version, 0)]
        for call in calls:
            self.refused(before, versions, call, -4)

    def test_none_at_first(self):
        for version in (0, 1, LAST):
            self.no_such([], 0, version)

    def test_one_more_than_the_last(self):
        for version in (3, 4, 127, 128, 2 ** 63, LAST):
            self.no_such(SOME, 3, version)

    def test_when_full(self):
        for version in (128, 129, LAST):
            self.no_such(FULL, 128, version)

    def test_the_last_one_is_there(self):
        self.assertEqual(ask(*SOME, doc(2), branch(3, 2))[-2:], [[1, 1, 3], [0]])

    def test_drop_and_head_of_a_branch_at_none(self):
        for number in range(8):
            self.refused([], 0, drop(number), -4)
            self.refused([], 0, head(number), -4)
        for number in range(3, 8):
            self.refused(SOME, 3, drop(number), -4)
            self.refused(SOME, 3, head(number), -4)
        self.refused(FULL, 128, drop(7), -4)
        self.refused(FULL, 128, head(7), -4)

    def test_drop_again(self):
        self.refused(SOME + [drop(0)], 3, drop(0), -4)
        self.refused(SOME + [drop(0)], 3, head(0), -4)


class Full(Refused):
    def test_on_a_branch_at_one_and_at_none(self):
        for number in range(8):
            self.refused(FULL, 128, commit(number, [[1]]), -6)
        self.refused(FULL, 128, commit(0), -6)
        self.refused(FULL + [drop(0)], 128, commit(0), -6)

    def test_again_and_again(self):
        self.assertEqual(ask(*FULL, commit(0), commit(7), commit(0))[-3:], [[-6]] * 3)

    def test_127_have_room_for_one_more(self):
        self.assertEqual(ask(*FULL[:127], commit(7), commit(7))[-2:], [[127], [-6]])

    def test_what_was_refused_is_not_counted(self):
        calls = [commit(8), commit(0, TOO_MANY_LINES)] * 70 + FULL
        self.assertEqual(ask(*calls)[140:], [[number] for number in range(128)])

    def test_what_makes_no_version_goes_on(self):
        found = ask(*FULL, branch(7, 127), head(7), drop(7), head(0), parents(127))
        self.assertEqual(found[128:], [[0], [127], [0], [126], listed(120)])


if __name__ == "__main__":
    unittest.main()
