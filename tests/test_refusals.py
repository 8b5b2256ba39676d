"""Each refusal, which comes first where several hold, and that it changes nothing."""

import unittest

from tests.helper import (LAST, ask, attempt, branch, clashes, commit, common, count, doc, drop, everything, head,
                          lines, listed, log, merge, origins, parents, pick, text, undo, way)

SOME = [commit(0, [[1]]), commit(0, [[2]]), branch(1, 0), commit(1, [[3]]), branch(2, 1)]
FULL = [commit(number % 7, [[number]]) for number in range(128)]
TOO_MANY_LINES = [[]] * 65
TOO_LONG_A_LINE = [[0] * 65]
SIXTY = [[number] for number in range(60)]
# 1 on branch 0 and 2 on branch 1, both made where 0 is, changed the same line: so do not merge.
CLASHING = [commit(0, text("abc")), branch(1, 0), commit(0, text("axc")), commit(1, text("ayyc"))]
# 1 on branch 0 and 2 on branch 1 merge, into 66 lines.
TOO_LONG = [commit(0, SIXTY), branch(1, 0), commit(0, [[91]] * 3 + SIXTY), commit(1, SIXTY + [[92]] * 3)]
# 2 on branch 0 has room for one more line; 1 took three out.
TOO_LONG_UNDONE = [commit(0, SIXTY), commit(0, SIXTY[:57]), commit(0, [[91]] * 6 + SIXTY[:57])]


def filled(calls, versions):
    """The same, and versions without lines on branch 7 until there are 128."""
    return calls + [commit(7)] * (128 - versions)


class Refused(unittest.TestCase):
    def refused(self, before, versions, call, number):
        """The call answers the number alone, and all that can be asked is as without it."""
        self.answered(before, versions, call, [number])

    def answered(self, before, versions, call, answer):
        behind = everything(versions)
        if versions < 128:
            behind += [commit(0, [[9]]), commit(5, [[9]]), parents(versions), parents(versions + 1)]
        without = ask(*before, *behind)
        found = ask(*before, call, *behind)
        self.assertEqual(found[len(before)], answer)
        self.assertEqual(found[:len(before)] + found[len(before) + 1:], without)

    def refused_wherever(self, call, number):
        self.refused([], 0, call, number)
        self.refused(SOME, 3, call, number)
        self.refused(FULL, 128, call, number)


class Unfit(Refused):
    def test_branches_above_7(self):
        for number in (8, 9, 127, 255, 256, 2 ** 63, LAST):
            for call in (commit(number, [[1]]), branch(number, 0), drop(number), head(number), merge(number, 0),
                         pick(number, 0), undo(number, 0)):
                self.refused_wherever(call, -1)

    def test_65_lines(self):
        self.refused_wherever(commit(0, TOO_MANY_LINES), -1)
        self.refused_wherever(commit(0, [[number] for number in range(65)]), -1)

    def test_a_line_of_65_bytes(self):
        self.refused_wherever(commit(0, TOO_LONG_A_LINE), -1)
        self.refused_wherever(commit(0, [[1], [0] * 65, [1]]), -1)
        self.refused_wherever(commit(0, [[]] * 63 + [[255] * 65]), -1)

    def test_documents_of_try(self):
        for document in (TOO_MANY_LINES, TOO_LONG_A_LINE, [[1], [0] * 65, [1]], [[]] * 63 + [[255] * 65]):
            for three in ((document, [], []), ([], document, []), ([], [], document), (document,) * 3,
                          (document, document, []), ([], document, document), (document, [], document)):
                self.refused_wherever(attempt(*three), -1)

    def test_the_most_that_is_handed_in(self):
        self.refused_wherever(commit(0, [[7] * 100] * 100), -1)
        self.refused([], 0, attempt([[]] * 300, [], []), -1)
        self.refused([], 0, attempt([], [[]] * 300, []), -1)
        self.refused([], 0, attempt([], [], [[]] * 300), -1)
        self.refused([], 0, attempt([[6] * 100] * 50, [[7] * 100] * 50, [[8] * 100] * 50), -1)

    def test_edges_that_fit(self):
        self.assertEqual(ask(commit(7, [[]] * 64), commit(7, [[0] * 64])), [[0], [1]])
        self.assertEqual(ask(attempt([[]] * 64, [[0] * 64], [[]] * 64)), [lines([[0] * 64])])
        self.assertEqual(ask(attempt([], [[0] * 64] * 64, [])), [lines([[0] * 64] * 64)])

    def test_of_try_ahead_of_clashes_and_of_what_does_not_fit(self):
        self.refused_wherever(attempt(text("a"), text("b"), TOO_MANY_LINES), -1)
        self.refused_wherever(attempt(text("a"), TOO_LONG_A_LINE, text("c")), -1)
        self.refused_wherever(attempt(SIXTY, [[91]] * 6 + SIXTY, SIXTY), -1)
        self.refused_wherever(attempt(TOO_LONG_A_LINE, text("a"), text("a")), -1)

    def test_ahead_of_no_such_version(self):
        for version in (0, 3, 128, LAST):
            for write in (branch, merge, pick, undo):
                self.refused([], 0, write(8, version), -1)
                self.refused(SOME, 3, write(LAST, version), -1)
                self.refused(FULL, 128, write(8, version), -1)

    def test_ahead_of_too_many_versions(self):
        self.refused(FULL, 128, commit(8, [[1]]), -1)
        self.refused(FULL, 128, commit(LAST), -1)
        self.refused(FULL, 128, commit(0, TOO_MANY_LINES), -1)
        self.refused(FULL, 128, commit(0, TOO_LONG_A_LINE), -1)

    def test_both_at_once(self):
        self.refused_wherever(commit(8, TOO_MANY_LINES), -1)


class Missing(Refused):
    def no_such(self, before, versions, version):
        calls = [doc(version), parents(version), log(version), common(version, version), way(version, version)]
        calls += [branch(0, version), branch(7, version), origins(version)]
        calls += [write(number, version) for write in (merge, pick, undo) for number in (0, 1, 7)]
        if versions > 0:
            calls += [common(0, version), common(version, 0), way(0, version), way(version, 0)]
        for call in calls:
            self.refused(before, versions, call, -4)

    def test_none_at_first(self):
        for version in (0, 1, LAST):
            self.no_such([], 0, version)

    def test_one_more_than_the_last(self):
        for version in (3, 4, 127, 128, 2 ** 63, LAST):
            self.no_such(SOME, 3, version)

    def test_when_full(self):
        for version in (128, 129, LAST):
            self.no_such(FULL, 128, version)

    def test_the_last_one_is_there(self):
        self.assertEqual(ask(*SOME, doc(2), branch(3, 2))[-2:], [[1, 1, 3], [0]])

    def test_drop_and_head_of_a_branch_at_none(self):
        for number in range(8):
            self.refused([], 0, drop(number), -4)
            self.refused([], 0, head(number), -4)
        for number in range(3, 8):
            self.refused(SOME, 3, drop(number), -4)
            self.refused(SOME, 3, head(number), -4)
        self.refused(FULL, 128, drop(7), -4)
        self.refused(FULL, 128, head(7), -4)

    def test_merge_pick_and_undo_on_a_branch_at_none(self):
        for write in (merge, pick, undo):
            for version in range(3):
                self.refused(SOME, 3, write(3, version), -4)
                self.refused(SOME + [drop(0)], 3, write(0, version), -4)
                self.refused(FULL, 128, write(7, version), -4)
            self.refused([], 0, write(0, 0), -4)
            self.refused(SOME, 3, write(7, 3), -4)

    def test_drop_again(self):
        self.refused(SOME + [drop(0)], 3, drop(0), -4)
        self.refused(SOME + [drop(0)], 3, head(0), -4)


class Clashing(Refused):
    ONE = clashes((1, 1, 1, 1, 1, 2))

    def test_merge(self):
        self.answered(CLASHING, 3, merge(0, 2), self.ONE)
        self.answered(CLASHING, 3, merge(1, 1), clashes((1, 1, 1, 2, 1, 1)))

    def test_pick(self):
        self.answered(CLASHING, 3, pick(0, 2), self.ONE)
        self.answered(CLASHING, 3, pick(1, 1), clashes((1, 1, 1, 2, 1, 1)))

    def test_undo(self):
        # 1 made x of b, 2 made z of x: b can't be put back.
        made = [commit(0, text("abc")), commit(0, text("axc")), commit(0, text("azzc"))]
        self.answered(made, 3, undo(0, 1), clashes((1, 1, 1, 2, 1, 1)))

    def test_try(self):
        self.answered(SOME, 3, attempt(text("abc"), text("axc"), text("ayyc")), self.ONE)
        self.answered(FULL, 128, attempt(text("abc"), text("axc"), text("ayyc")), self.ONE)

    def test_nothing_in_common(self):
        made = [commit(0, text("ab")), commit(1, text("b"))]
        self.answered(made, 2, merge(0, 1), clashes((0, 0, 0, 2, 0, 1)))
        self.answered(made, 2, pick(0, 1), clashes((0, 0, 0, 2, 0, 1)))
        self.answered(made, 2, undo(0, 1), ask(attempt(text("b"), text("ab"), []))[0])

    def test_several(self):
        made = [commit(0, text("abcde")), branch(1, 0), commit(0, text("xbydez")), commit(1, text("pbqdef"))]
        told = clashes((0, 1, 0, 1, 0, 1), (2, 1, 2, 1, 2, 1), (5, 0, 5, 1, 5, 1))
        self.answered(made, 3, merge(0, 2), told)
        self.answered(made, 3, pick(0, 2), told)

    def test_ahead_of_too_many_versions(self):
        for call in (merge(0, 2), pick(0, 2)):
            self.answered(filled(CLASHING, 3), 128, call, self.ONE)
        made = [commit(0, text("abc")), commit(0, text("axc")), commit(0, text("azzc"))]
        self.answered(filled(made, 3), 128, undo(0, 1), clashes((1, 1, 1, 2, 1, 1)))

    def test_ahead_of_what_does_not_fit(self):
        o = SIXTY
        a = [[91]] * 3 + SIXTY[:59] + [[93]]
        b = SIXTY[:59] + [[92]] * 4
        self.answered([], 0, attempt(o, a, b), clashes((59, 1, 62, 1, 59, 4)))
        made = [commit(0, o), branch(1, 0), commit(0, a), commit(1, b)]
        self.answered(made, 3, merge(0, 2), clashes((59, 1, 62, 1, 59, 4)))

    def test_again(self):
        self.assertEqual(ask(*CLASHING, merge(0, 2), merge(0, 2), pick(0, 2), count())[4:],
                         [self.ONE] * 3 + [[3, 8, 2, 3, 0, 0, 0, 0, 0, 0]])


class MergedDoesNotFit(Refused):
    def test_merge(self):
        self.refused(TOO_LONG, 3, merge(0, 2), -6)
        self.refused(TOO_LONG, 3, merge(1, 1), -6)

    def test_pick(self):
        self.refused(TOO_LONG, 3, pick(0, 2), -6)
        self.refused(TOO_LONG, 3, pick(1, 1), -6)

    def test_undo(self):
        self.refused(TOO_LONG_UNDONE, 3, undo(0, 1), -6)

    def test_try(self):
        for before, versions in (([], 0), (SOME, 3), (FULL, 128)):
            self.refused(before, versions, attempt(SIXTY, [[91]] * 3 + SIXTY, SIXTY + [[92]] * 3), -6)

    def test_65_lines_do_not_and_64_do(self):
        for more, answers in ((2, [[3], lines([[91]] * 2 + SIXTY + [[92]] * 2)]), (3, [[-6], [-4]])):
            o, a, b = SIXTY, [[91]] * 2 + SIXTY, SIXTY + [[92]] * more
            made = [commit(0, o), branch(1, 0), commit(0, a), commit(1, b)]
            self.assertEqual(ask(*made, merge(0, 2), doc(3))[4:], answers)
            self.assertEqual(ask(*made, pick(0, 2), doc(3))[4:], answers)
            self.assertEqual(ask(attempt(o, a, b))[0], answers[1] if more == 2 else [-6])
            made = [commit(0, o), commit(0, o[more:]), commit(0, o[more:] + [[91]] * 4)]
            told = [[3], lines(o + [[91]] * 4)]
            self.assertEqual(ask(*made, undo(0, 1), doc(3))[3:], told)
            made[2] = commit(0, o[more:] + [[91]] * 5)
            self.assertEqual(ask(*made, undo(0, 1), doc(3))[3:], [[-6], [-4]])

    def test_when_there_are_128_versions_too(self):
        self.refused(filled(TOO_LONG, 3), 128, merge(0, 2), -6)
        self.refused(filled(TOO_LONG, 3), 128, pick(0, 2), -6)
        self.refused(filled(TOO_LONG_UNDONE, 3), 128, undo(0, 1), -6)


class Full(Refused):
    def test_on_a_branch_at_one_and_at_none(self):
        for number in range(8):
            self.refused(FULL, 128, commit(number, [[1]]), -6)
        self.refused(FULL, 128, commit(0), -6)
        self.refused(FULL + [drop(0)], 128, commit(0), -6)

    def test_merge_pick_and_undo(self):
        made = filled([commit(0, text("abc")), branch(1, 0), commit(0, text("xabc")), commit(1, text("abcy"))], 3)
        for call in (merge(0, 2), merge(1, 1), merge(0, 127), merge(7, 0), pick(0, 2), pick(0, 1), undo(0, 1),
                     undo(0, 2), undo(1, 2)):
            self.refused(made, 128, call, -6)

    def test_again_and_again(self):
        self.assertEqual(ask(*FULL, commit(0), commit(7), commit(0))[-3:], [[-6]] * 3)

    def test_127_have_room_for_one_more(self):
        self.assertEqual(ask(*FULL[:127], commit(7), commit(7))[-2:], [[127], [-6]])

    def test_what_was_refused_is_not_counted(self):
        calls = [commit(8), commit(0, TOO_MANY_LINES)] * 70 + FULL
        self.assertEqual(ask(*calls)[140:], [[number] for number in range(128)])

    def test_what_makes_no_version_goes_on(self):
        found = ask(*FULL, branch(7, 127), head(7), drop(7), head(0), parents(127), merge(0, 0), way(0, 0),
                    origins(0), attempt(text("a"), text("a"), text("ab")), count())
        self.assertEqual(found[128:], [[0], [127], [0], [126], listed(120), [126], [1, 1, 0], listed(0),
                                       lines(text("ab")), [128, 8, 127, 128, 122, 123, 124, 125, 126, 0]])


if __name__ == "__main__":
    unittest.main()
