"""commit, branch, drop, head, doc, parents and count, where they are not refused; H6."""

import unittest

from tests.helper import (ask, ask_last, attempt, branch, commit, common, count, doc, drop, everything, head, lines,
                          listed, log, merge, origins, parents, pick, text, undo, way)
from textbranches.histories import answers

A = [[97]]
B = [[97], [98]]
C = [[99, 99]]


class Written(unittest.TestCase):
    """The very numbers, written out."""

    def test_each_call(self):
        self.assertEqual(
            answers([
                0, 1, 3, 2, 2, 97, 98, 0,
                0, 1, 3, 0,
                1, 2, 5, 0, 0,
                3, 1, 5, 0,
                2, 1, 5, 0,
                3, 1, 5, 0,
                4, 1, 0, 0,
                4, 1, 1, 0,
                5, 1, 0, 0,
                5, 1, 1, 0,
                6, 1, 1, 0,
                7, 2, 0, 1, 0,
            ]),
            [
                1, 0,
                1, 1,
                1, 0,
                1, 0,
                1, 0,
                1, -4,
                5, 2, 2, 97, 98, 0,
                1, 0,
                2, 0, 0,
                3, 1, 1, 0,
                4, 2, 2, 1, 0,
                3, 1, 1, 0,
            ])


class Commit(unittest.TestCase):
    def test_numbers_go_up_from_0_over_all_branches(self):
        self.assertEqual(ask(commit(0, A), commit(7, B), commit(0, C), commit(3)), [[0], [1], [2], [3]])

    def test_several_on_one_branch(self):
        found = ask(commit(2, A), commit(2, B), commit(2, C), parents(0), parents(1), parents(2), head(2))
        self.assertEqual(found[3:], [listed(), listed(0), listed(1), [2]])

    def test_the_branch_alone_moves(self):
        found = ask(commit(1, A), commit(2, B), head(0), head(1), head(2))
        self.assertEqual(found[2:], [[-4], [0], [1]])

    def test_the_same_document_again_is_a_new_version(self):
        self.assertEqual(ask(commit(0, A), commit(0, A), parents(1)), [[0], [1], listed(0)])

    def test_every_branch(self):
        calls = [commit(number, [[number]]) for number in range(8)]
        calls += [commit(number, [[number]]) for number in range(8)]
        calls += [parents(8 + number) for number in range(8)]
        calls += [head(number) for number in range(8)]
        found = ask(*calls)
        self.assertEqual(found[:16], [[number] for number in range(16)])
        self.assertEqual(found[16:24], [listed(number) for number in range(8)])
        self.assertEqual(found[24:], [[8 + number] for number in range(8)])

    def test_128_versions(self):
        found = ask(*[commit(0, [[number]]) for number in range(128)], doc(127), parents(127), doc(0))
        self.assertEqual(found, [[n] for n in range(128)] + [lines([[127]]), listed(126), lines([[0]])])


class Branch(unittest.TestCase):
    def test_apart_from_one_version(self):
        found = ask(commit(0, A), branch(1, 0), commit(0, B), commit(1, C),
                    parents(1), parents(2), head(0), head(1))
        self.assertEqual(found, [[0], [0], [1], [2], listed(0), listed(0), [1], [2]])

    def test_moved_back_and_committed_on_again(self):
        found = ask(commit(0, A), commit(0, B), branch(0, 0), head(0), commit(0, C), parents(2), doc(1), head(0))
        self.assertEqual(found, [[0], [1], [0], [0], [2], listed(0), lines(B), [2]])

    def test_moved_to_where_it_is(self):
        self.assertEqual(ask(commit(0, A), branch(0, 0), head(0)), [[0], [0], [0]])

    def test_moved_to_what_is_no_forebear(self):
        self.assertEqual(ask(commit(0, A), commit(1, B), branch(0, 1), head(0), head(1)),
                         [[0], [1], [0], [1], [1]])

    def test_branch_7_and_the_last_version(self):
        self.assertEqual(ask(commit(0), commit(0), branch(7, 1), head(7)), [[0], [1], [0], [1]])

    def test_answers_0_whatever_the_version(self):
        self.assertEqual(ask_last(commit(0), commit(0), commit(0), branch(4, 2)), [0])


class Drop(unittest.TestCase):
    def test_then_it_is_at_none(self):
        self.assertEqual(ask(commit(0, A), commit(0, A), drop(0), head(0), drop(0)), [[0], [1], [0], [-4], [-4]])

    def test_the_others_stay(self):
        found = ask(commit(0), branch(1, 0), branch(7, 0), drop(1), head(0), head(1), head(7))
        self.assertEqual(found[3:], [[0], [0], [-4], [0]])

    def test_its_versions_stay(self):
        found = ask(commit(6, A), commit(6, B), drop(6), doc(0), doc(1), parents(1), log(1))
        self.assertEqual(found[3:], [lines(A), lines(B), listed(0), listed(1, 0)])

    def test_committed_on_then_without_parents(self):
        found = ask(commit(0, A), drop(0), commit(0, B), parents(1), head(0), log(1))
        self.assertEqual(found, [[0], [0], [1], listed(), [1], listed(1)])

    def test_taken_up_again(self):
        found = ask(commit(0, A), drop(0), branch(0, 0), commit(0, B), parents(1))
        self.assertEqual(found, [[0], [0], [0], [1], listed(0)])


class Documents(unittest.TestCase):
    def same_is_told(self, document):
        self.assertEqual(ask(commit(0, document), doc(0)), [[0], lines(document)])

    def test_ordinary(self):
        self.same_is_told([[104, 105], [], [97, 98, 99], [104, 105]])

    def test_without_lines(self):
        self.assertEqual(ask(commit(0), doc(0)), [[0], [0]])

    def test_lines_of_no_bytes(self):
        self.assertEqual(ask(commit(0, [[]]), doc(0)), [[0], [1, 0]])
        self.assertEqual(ask(commit(0, [[], [], []]), doc(0)), [[0], [3, 0, 0, 0]])

    def test_bytes_0_and_255(self):
        self.assertEqual(ask(commit(0, [[0], [255], [0, 255, 0]]), doc(0)), [[0], [3, 1, 0, 1, 255, 3, 0, 255, 0]])

    def test_every_byte(self):
        self.same_is_told([list(range(first, first + 64)) for first in (0, 64, 128, 192)])

    def test_64_lines(self):
        self.same_is_told([[number] for number in range(64)])
        self.same_is_told([[]] * 64)

    def test_a_line_of_64_bytes(self):
        self.same_is_told([list(range(64))])

    def test_64_lines_of_64_bytes(self):
        self.same_is_told([[line + place for place in range(64)] for line in range(64)])


class Count(unittest.TestCase):
    def test_before_the_first_version(self):
        self.assertEqual(answers([14, 0, 0]), [10, 0, 8, 0, 0, 0, 0, 0, 0, 0, 0])

    def test_branches_at_none(self):
        found = ask(commit(2, A), count(), commit(7, A), count(), commit(2, B), count())
        self.assertEqual(found[1::2], [
            [1, 8, 0, 0, 1, 0, 0, 0, 0, 0],
            [2, 8, 0, 0, 1, 0, 0, 0, 0, 2],
            [3, 8, 0, 0, 3, 0, 0, 0, 0, 2],
        ])

    def test_every_branch(self):
        found = ask_last(*[commit(number) for number in range(8)], count())
        self.assertEqual(found, [8, 8, 1, 2, 3, 4, 5, 6, 7, 8])

    def test_after_branch(self):
        self.assertEqual(ask_last(commit(0), commit(0), branch(5, 0), count()), [2, 8, 2, 0, 0, 0, 0, 1, 0, 0])

    def test_after_drop(self):
        found = ask(commit(0), branch(1, 0), drop(0), count(), drop(1), count())
        self.assertEqual(found[3::2], [[1, 8, 0, 1, 0, 0, 0, 0, 0, 0], [1, 8] + [0] * 8])

    def test_after_a_refusal(self):
        for call in (commit(8), commit(0, [[]] * 65), branch(3, 1), branch(8, 0), drop(3), merge(0, 9), merge(3, 0),
                     pick(0, 9), undo(3, 0), attempt([[]] * 65, [], []), attempt([], A, C), doc(4), way(0, 4)):
            found = ask(commit(0), branch(1, 0), call, count())
            self.assertLess(found[2][0], 0)
            self.assertEqual(found[3], [1, 8, 1, 1, 0, 0, 0, 0, 0, 0])

    def test_128_versions(self):
        found = ask(*[commit(6)] * 128, count(), commit(0), count())
        self.assertEqual(found[128:], [[128, 8, 0, 0, 0, 0, 0, 0, 128, 0], [-6], [128, 8, 0, 0, 0, 0, 0, 0, 128, 0]])


class StayAsMade(unittest.TestCase):
    """H6."""

    MADE = [commit(0, text("abc")), branch(1, 0), commit(0, text("xabc")), commit(1, text("abcy")), merge(0, 2)]
    # Each makes, moves, asks or is refused.
    LATER = [
        commit(0, [[1]]), branch(1, 1), commit(1, []), drop(0), commit(0, B), branch(0, 2), drop(1),
        merge(0, 3), branch(1, 1), merge(1, 2), pick(1, 2), undo(1, 3), undo(0, 0), pick(0, 3), merge(0, 4),
        merge(0, 99), merge(5, 0), commit(8), commit(0, [[]] * 65), merge(7, 0), pick(0, 99), undo(9, 0),
        attempt(text("abc"), text("xabc"), text("abcy")), attempt(text("a"), text("b"), text("c")),
        way(0, 3), way(3, 0), common(2, 1), count(), head(0), head(6), origins(3), log(3), parents(3), doc(3),
        drop(0), commit(0, text("abc")), merge(0, 3), branch(0, 0), merge(0, 3), pick(0, 3), undo(0, 3),
    ]

    def test_whatever_is_called_later(self):
        shown = [call for version in range(4) for call in (doc(version), parents(version), log(version),
                                                           origins(version))]
        expected = [
            lines(text("abc")), listed(), listed(0), listed(0, 0, 0),
            lines(text("xabc")), listed(0), listed(1, 0), listed(1, 0, 0, 0),
            lines(text("abcy")), listed(0), listed(2, 0), listed(0, 0, 0, 2),
            lines(text("xabcy")), listed(1, 2), listed(3, 2, 1, 0), listed(1, 0, 0, 0, 2),
        ]
        self.assertEqual(ask(*self.MADE, *shown)[5:], expected)
        for size in range(1, len(self.LATER) + 1):
            found = ask(*self.MADE, *shown, *self.LATER[:size], *shown)
            self.assertEqual(found[5:21], expected)
            self.assertEqual(found[-16:], expected)

    def test_later_versions_too(self):
        made = list(self.MADE)
        before = []
        for call in self.LATER:
            made.append(call)
            versions = ask(*made, count())[-1][0]
            found = ask(*made, *everything(versions))[len(made) + 9:-4]
            self.assertEqual(found[:len(before)], before)
            before = found

    def test_asking_changes_nothing(self):
        made = self.MADE + self.LATER
        versions = ask(*made, count())[-1][0]
        asked = everything(versions) + [way(0, 3), way(3, 1), common(1, 2), attempt(text("ab"), text("a"), text("b"))]
        once = ask(*made, *asked)
        twice = ask(*made, *asked, *asked)
        self.assertEqual(twice, once + once[len(made):])


if __name__ == "__main__":
    unittest.main()
