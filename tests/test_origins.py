"""origins, and H5."""

import random
import unittest

from tests.helper import (ask, ask_last, branch, commit, doc, drop, head, lines, listed, merge, origins, pick, text,
                          undo)


def on_one_branch(*words):
    return [commit(0, text(word)) for word in words]


class OneParent(unittest.TestCase):
    def told(self, words, *expected):
        self.assertEqual(ask_last(*on_one_branch(*words), origins(len(words) - 1)), listed(*expected))

    def test_the_very_numbers(self):
        self.assertEqual(ask(commit(5, [[9, 9], []]), [13, 1, 0, 0])[1], [2, 2, 0, 0])

    def test_without_a_parent(self):
        self.told(["abc"], 0, 0, 0)

    def test_without_lines(self):
        self.assertEqual(ask(commit(0), origins(0))[1], [0, 0])
        self.told(["ab", ""])

    def test_kept_through_several_versions(self):
        self.told(["a", "ab", "abc", "abcd"], 0, 1, 2, 3)
        self.told(["a", "ba", "cba", "cbda"], 2, 1, 3, 0)
        self.told(["abc", "abc", "abc"], 0, 0, 0)

    def test_what_is_dropped_leaves_the_others(self):
        self.told(["a", "ab", "abc", "bc", "c"], 2)

    def test_dropped_and_added_again(self):
        self.told(["ab", "b", "ab"], 2, 0)
        self.told(["ab", "", "ab"], 2, 2)

    def test_changed_about(self):
        # The way from ab to ba drops a, keeps b, and adds a.
        self.told(["ab", "ba"], 0, 1)

    def test_lines_that_come_more_than_once(self):
        self.told(["a", "aa", "aaa"], 0, 1, 2)
        self.told(["aba", "ababa"], 0, 0, 0, 1, 1)
        self.told(["ab", "aab"], 0, 1, 0)

    def test_lines_of_no_bytes(self):
        found = ask(commit(0, [[]]), commit(0, [[], [1], []]), origins(1))
        self.assertEqual(found[2], listed(0, 1, 1))

    def test_not_of_versions_that_are_no_forebears(self):
        found = ask(commit(0, text("a")), commit(1, text("a")), drop(0), commit(0, text("a")), origins(1), origins(2))
        self.assertEqual(found[4:], [listed(1), listed(2)])

    def test_of_every_version(self):
        found = ask(*on_one_branch("a", "ab", "b", "ba"), *[origins(version) for version in range(4)])
        self.assertEqual(found[4:], [listed(0), listed(0, 1), listed(1), listed(1, 3)])

    def test_64_lines_through_128_versions(self):
        document = [[number] for number in range(64)]
        made = [commit(0, document)] + [undo(0, 0), undo(0, 1)] * 63
        found = ask(*made, origins(126), doc(126), origins(125))
        self.assertEqual(found[-3:-1], [listed(*[126] * 64), lines(document)])
        made = [commit(0, document)] + [pick(0, 0)] * 127
        self.assertEqual(ask(*made, head(0), origins(127))[-2:], [[127], listed(*[0] * 64)])


class TwoParents(unittest.TestCase):
    MADE = [commit(0, text("abc")), branch(1, 0), commit(0, text("xabc")), commit(1, text("abcy"))]

    def test_of_either(self):
        found = ask(*self.MADE, merge(0, 2), origins(3))
        self.assertEqual(found[5], listed(1, 0, 0, 0, 2))

    def test_whoever_is_named_first(self):
        found = ask(*self.MADE, merge(1, 1), origins(3))
        self.assertEqual(found[5], listed(1, 0, 0, 0, 2))

    def test_the_first_parent_counts(self):
        alike = [commit(0, text("abc")), branch(1, 0), commit(0, text("axc")), commit(1, text("axc"))]
        self.assertEqual(ask(*alike, merge(0, 2), origins(3))[4:], [[3], listed(0, 1, 0)])
        self.assertEqual(ask(*alike, merge(1, 1), origins(3))[4:], [[3], listed(0, 2, 0)])

    def test_the_first_parent_counts_though_it_is_higher(self):
        found = ask(commit(0, text("a")), commit(1, text("a")), merge(1, 0), origins(2))
        self.assertEqual(found[3], listed(1))
        found = ask(commit(0, text("a")), commit(1, text("a")), merge(0, 1), origins(2))
        self.assertEqual(found[3], listed(0))

    def test_through_a_merged_version(self):
        found = ask(*self.MADE, merge(0, 2), commit(0, text("xabzcy")), origins(4))
        self.assertEqual(found[6], listed(1, 0, 0, 4, 0, 2))

    def test_a_line_that_the_first_parent_added_again(self):
        # 2 took b out, 3 put it in again; 1 has it from 0.
        made = [commit(0, text("abc")), branch(1, 0), commit(0, text("abcx")), commit(1, text("ac")),
                commit(1, text("abc"))]
        self.assertEqual(ask(*made, merge(0, 3), origins(4))[5:], [[4], listed(0, 0, 0, 1)])
        self.assertEqual(ask(*made, merge(1, 1), origins(4))[5:], [[4], listed(0, 3, 0, 1)])

    def test_kept_from_neither_parent(self):
        # The ways from bababb and from abbbaaa to abbbaba keep its lines 0 to 3, and 0 to 4 and 6.
        made = [commit(0, text("baaabb")), branch(1, 0), commit(0, text("bababb")), commit(1, text("abbbaaa"))]
        found = ask(*made, origins(1), origins(2), merge(0, 2), doc(3), origins(3))
        self.assertEqual(found[4:], [listed(0, 0, 1, 0, 0, 0), listed(2, 0, 2, 2, 0, 0, 0), [3],
                                     lines(text("abbbaba")), listed(0, 1, 0, 0, 0, 3, 0)])

    def test_of_every_version(self):
        found = ask(*self.MADE, merge(0, 2), *[origins(version) for version in range(4)])
        self.assertEqual(found[5:], [listed(0, 0, 0), listed(1, 0, 0, 0), listed(0, 0, 0, 2), listed(1, 0, 0, 0, 2)])


class PickAndUndo(unittest.TestCase):
    def test_a_picked_line_came_in_with_the_pick(self):
        made = [commit(0, text("ab")), branch(1, 0), commit(1, text("abc"))]
        self.assertEqual(ask(*made, pick(0, 1), origins(2))[3:], [[2], listed(0, 0, 2)])

    def test_a_line_back_by_undo_came_in_with_it(self):
        self.assertEqual(ask(*on_one_branch("ab", "b"), undo(0, 1), origins(2))[2:], [[2], listed(2, 0)])


class StandsThere(unittest.TestCase):
    """H5: the line stands in the version where it's told that it came in."""

    def made(self, chance):
        calls = []
        for turn in range(60):
            number = chance.randrange(3)
            version = chance.randrange(40)
            calls.append(chance.choice([
                commit(number, text(chance.choices("abcd", k=chance.randrange(6)))),
                branch(number, version), merge(number, version), pick(number, version), undo(number, version)]))
        return calls

    def test_by_chance(self):
        for seed in range(40):
            made = self.made(random.Random(seed))
            shown = ask(*made, *[doc(version) for version in range(60)], *[origins(version) for version in range(60)])
            documents = [one for one in shown[60:120] if one != [-4]]
            for version, document in enumerate(documents):
                told = shown[120 + version]
                self.assertEqual((told[0], told[1]), (document[0], document[0]))
                for line, origin in zip(document[2::2], told[2:]):
                    self.assertLessEqual(origin, version)
                    self.assertIn(line, documents[origin][2::2])


if __name__ == "__main__":
    unittest.main()
