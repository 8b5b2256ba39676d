"""commit, branch, drop, head, doc and parents, where they are not refused."""

import unittest

from tests.helper import ask, ask_last, branch, commit, doc, drop, everything, head, lines, listed, log, parents
from textbranches.histories import answers

A = [[97]]
B = [[97], [98]]
C = [[99, 99]]


class Written(unittest.TestCase):
    """The very numbers, written out."""

    def test_each_call(self):
        self.assertEqual(
            answers([
                0, 1, 3, 2, 2, 97, 98, 0,
                0, 1, 3, 0,
                1, 2, 5, 0, 0,
                3, 1, 5, 0,
                2, 1, 5, 0,
                3, 1, 5, 0,
                4, 1, 0, 0,
                4, 1, 1, 0,
                5, 1, 0, 0,
                5, 1, 1, 0,
                6, 1, 1, 0,
                7, 2, 0, 1, 0,
            ]),
            [
                1, 0,
                1, 1,
                1, 0,
                1, 0,
                1, 0,
                1, -4,
                5, 2, 2, 97, 98, 0,
                1, 0,
                2, 0, 0,
                3, 1, 1, 0,
                4, 2, 2, 1, 0,
                3, 1, 1, 0,
            ])


class Commit(unittest.TestCase):
    def test_numbers_go_up_from_0_over_all_branches(self):
        self.assertEqual(ask(commit(0, A), commit(7, B), commit(0, C), commit(3)), [[0], [1], [2], [3]])

    def test_several_on_one_branch(self):
        found = ask(commit(2, A), commit(2, B), commit(2, C), parents(0), parents(1), parents(2), head(2))
        self.assertEqual(found[3:], [listed(), listed(0), listed(1), [2]])

    def test_the_branch_alone_moves(self):
        found = ask(commit(1, A), commit(2, B), head(0), head(1), head(2))
        self.assertEqual(found[2:], [[-4], [0], [1]])

    def test_the_same_document_again_is_a_new_version(self):
        self.assertEqual(ask(commit(0, A), commit(0, A), parents(1)), [[0], [1], listed(0)])

    def test_every_branch(self):
        calls = [commit(number, [[number]]) for number in range(8)]
        calls += [commit(number, [[number]]) for number in range(8)]
        calls += [parents(8 + number) for number in range(8)]
        calls += [head(number) for number in range(8)]
        found = ask(*calls)
        self.assertEqual(found[:16], [[number] for number in range(16)])
        self.assertEqual(found[16:24], [listed(number) for number in range(8)])
        self.assertEqual(found[24:], [[8 + number] for number in range(8)])

    def test_128_versions(self):
        found = ask(*[commit(0, [[number]]) for number in range(128)], doc(127), parents(127), doc(0))
        self.assertEqual(found, [[n] for n in range(128)] + [lines([[127]]), listed(126), lines([[0]])])


class Branch(unittest.TestCase):
    def test_apart_from_one_version(self):
        found = ask(commit(0, A), branch(1, 0), commit(0, B), commit(1, C),
                    parents(1), parents(2), head(0), head(1))
        self.assertEqual(found, [[0], [0], [1], [2], listed(0), listed(0), [1], [2]])

    def test_moved_back_and_committed_on_again(self):
        found = ask(commit(0, A), commit(0, B), branch(0, 0), head(0), commit(0, C), parents(2), doc(1), head(0))
        self.assertEqual(found, [[0], [1], [0], [0], [2], listed(0), lines(B), [2]])

    def test_moved_to_where_it_is(self):
        self.assertEqual(ask(commit(0, A), branch(0, 0), head(0)), [[0], [0], [0]])

    def test_moved_to_what_is_no_forebear(self):
        self.assertEqual(ask(commit(0, A), commit(1, B), branch(0, 1), head(0), head(1)),
                         [[0], [1], [0], [1], [1]])

    def test_branch_7_and_the_last_version(self):
        self.assertEqual(ask(commit(0), commit(0), branch(7, 1), head(7)), [[0], [1], [0], [1]])

    def test_answers_0_whatever_the_version(self):
        self.assertEqual(ask_last(commit(0), commit(0), commit(0), branch(4, 2)), [0])


class Drop(unittest.TestCase):
    def test_then_it_is_at_none(self):
        self.assertEqual(ask(commit(0, A), commit(0, A), drop(0), head(0), drop(0)), [[0], [1], [0], [-4], [-4]])

    def test_the_others_stay(self):
        found = ask(commit(0), branch(1, 0), branch(7, 0), drop(1), head(0), head(1), head(7))
        self.assertEqual(found[3:], [[0], [0], [-4], [0]])

    def test_its_versions_stay(self):
        found = ask(commit(6, A), commit(6, B), drop(6), doc(0), doc(1), parents(1), log(1))
        self.assertEqual(found[3:], [lines(A), lines(B), listed(0), listed(1, 0)])

    def test_committed_on_then_without_parents(self):
        found = ask(commit(0, A), drop(0), commit(0, B), parents(1), head(0), log(1))
        self.assertEqual(found, [[0], [0], [1], listed(), [1], listed(1)])

    def test_taken_up_again(self):
        found = ask(commit(0, A), drop(0), branch(0, 0), commit(0, B), parents(1))
        self.assertEqual(found, [[0], [0], [0], [1], listed(0)])


class Documents(unittest.TestCase):
    def same_is_told(self, document):
        self.assertEqual(ask(commit(0, document), doc(0)), [[0], lines(document)])

    def test_ordinary(self):
        self.same_is_told([[104, 105], [], [97, 98, 99], [104, 105]])

    def test_without_lines(self):
        self.assertEqual(ask(commit(0), doc(0)), [[0], [0]])

    def test_lines_of_no_bytes(self):
        self.assertEqual(ask(commit(0, [[]]), doc(0)), [[0], [1, 0]])
        self.assertEqual(ask(commit(0, [[], [], []]), doc(0)), [[0], [3, 0, 0, 0]])

    def test_bytes_0_and_255(self):
        self.assertEqual(ask(commit(0, [[0], [255], [0, 255, 0]]), doc(0)), [[0], [3, 1, 0, 1, 255, 3, 0, 255, 0]])

    def test_every_byte(self):
        self.same_is_told([list(range(first, first + 64)) for first in (0, 64, 128, 192)])

    def test_64_lines(self):
        self.same_is_told([[number] for number in range(64)])
        self.same_is_told([[]] * 64)

    def test_a_line_of_64_bytes(self):
        self.same_is_told([list(range(64))])

    def test_64_lines_of_64_bytes(self):
        self.same_is_told([[line + place for place in range(64)] for line in range(64)])


class StayAsMade(unittest.TestCase):
    """H6."""

    def test_whatever_is_called_later(self):
        made = [commit(0, A), commit(0, B), branch(1, 0), commit(1, C)]
        shown = [call for version in range(3) for call in (doc(version), parents(version), log(version))]
        later = [commit(0, [[1]]), branch(1, 1), commit(1, []), drop(0), commit(0, B), branch(0, 2), drop(1)]
        calls = made + shown
        for call in later:
            calls += [call] + shown
        found = ask(*calls)
        first = found[4:13]
        self.assertEqual(first, [
            lines(A), listed(), listed(0),
            lines(B), listed(0), listed(1, 0),
            lines(C), listed(0), listed(2, 0),
        ])
        for turn in range(len(later)):
            start = 13 + turn * 10
            self.assertEqual(found[start + 1:start + 10], first)

    def test_asking_changes_nothing(self):
        made = [commit(0, A), commit(0, B), branch(1, 0), commit(1, C)]
        once = ask(*made, *everything(3))
        twice = ask(*made, *everything(3), *everything(3))
        self.assertEqual(twice, once + once[4:])


if __name__ == "__main__":
    unittest.main()
