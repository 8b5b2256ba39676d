"""merge, pick and undo, where they are not refused; H2 and H7."""

import random
import unittest

from tests.helper import (ask, ask_last, attempt, branch, commit, common, count, doc, drop, everything, head, lines,
                          listed, log, merge, parents, pick, text, undo)
from textbranches.histories import answers

FULL = [commit(7)] * 124


def apart(o, a, b):
    """Version 0 with o; 1 with a on branch 0 and 2 with b on branch 1, both made where 0 is."""
    return [commit(0, text(o)), branch(1, 0), commit(0, text(a)), commit(1, text(b))]


APART = apart("abc", "xabc", "abcy")
# 5 and 6 have both 2 and 1 nearest in common; 3 and 4 are as merged from 0.
CROSSED = APART + [merge(0, 2), merge(1, 1)]


class VeryNumbers(unittest.TestCase):
    def test_merge_pick_and_undo(self):
        self.assertEqual(
            answers([
                0, 1, 0, 1, 1, 7,
                1, 2, 1, 0, 0,
                0, 1, 0, 2, 1, 8, 1, 7,
                0, 1, 1, 2, 1, 7, 1, 9,
                9, 2, 0, 2, 0,
                11, 2, 0, 1, 0,
                10, 2, 1, 1, 0,
                9, 2, 1, 4, 0,
                4, 1, 4, 0,
                4, 1, 6, 0,
                0, 1, 2, 1, 1, 6,
                9, 2, 2, 1, 0,
            ]),
            [
                1, 0,
                1, 0,
                1, 1,
                1, 2,
                1, 3,
                1, 4,
                1, 5,
                1, 6,
                5, 2, 1, 7, 1, 9,
                7, 3, 1, 8, 1, 7, 1, 9,
                1, 7,
                8, -3, 6, 0, 0, 0, 1, 0, 2,
            ])


class Merge(unittest.TestCase):
    def test_a_new_version_with_both_parents(self):
        found = ask(*APART, merge(0, 2), doc(3), parents(3), head(0), head(1), log(3))
        self.assertEqual(found[4:], [[3], lines(text("xabcy")), listed(1, 2), [3], [2], listed(3, 2, 1, 0)])

    def test_parents_in_this_order(self):
        found = ask(*APART, merge(1, 1), doc(3), parents(3), head(0), head(1))
        self.assertEqual(found[4:], [[3], lines(text("xabcy")), listed(2, 1), [1], [3]])

    def test_v_is_where_the_branch_is(self):
        found = ask(*APART, merge(0, 1), count())
        self.assertEqual(found[4:], [[1], [3, 8, 2, 3, 0, 0, 0, 0, 0, 0]])

    def test_v_is_a_forebear(self):
        made = [commit(3, text("a")), commit(3, text("b")), commit(3, text("c"))]
        for v in range(3):
            without = ask(*made, *everything(3))
            found = ask(*made, merge(3, v), *everything(3))
            self.assertEqual(found[3], [2])
            self.assertEqual(found[:3] + found[4:], without)

    def test_v_is_a_forebear_through_the_second_parent(self):
        found = ask(*APART, merge(0, 2), merge(0, 2), merge(0, 1), merge(0, 0), count())
        self.assertEqual(found[5:], [[3], [3], [3], [4, 8, 4, 3, 0, 0, 0, 0, 0, 0]])

    def test_the_branch_is_at_a_forebear(self):
        made = [commit(0, text("a")), branch(1, 0), commit(0, text("b")), commit(0, text("c"))]
        found = ask(*made, merge(1, 2), count(), head(1), head(0))
        self.assertEqual(found[4:], [[2], [3, 8, 3, 3, 0, 0, 0, 0, 0, 0], [2], [2]])

    def test_the_branch_is_at_a_forebear_through_the_second_parent(self):
        found = ask(*APART, merge(0, 2), merge(1, 3), head(1), count())
        self.assertEqual(found[5:], [[3], [3], [4, 8, 4, 4, 0, 0, 0, 0, 0, 0]])

    def test_forebears_do_not_clash(self):
        made = [commit(0, text("a")), branch(1, 0), commit(0, text("b"))]
        self.assertEqual(ask(*made, merge(0, 0), merge(1, 1))[3:], [[1], [1]])

    def test_forebears_when_there_are_128_versions(self):
        made = APART + [branch(2, 0), branch(3, 2)] + [commit(7)] * 125
        shown = [count(), head(0), head(2)]
        self.assertEqual(ask(*made, merge(0, 0), *shown)[-4:], [[1], [128, 8, 2, 3, 1, 3, 0, 0, 0, 128], [1], [0]])
        self.assertEqual(ask(*made, merge(2, 1), *shown)[-4:], [[1], [128, 8, 2, 3, 2, 3, 0, 0, 0, 128], [1], [1]])
        self.assertEqual(ask(*made, merge(3, 2), *shown)[-4], [2])

    def test_the_last_of_128_versions(self):
        found = ask(*APART, *FULL, merge(0, 2), doc(127), parents(127), head(0), merge(0, 2))
        self.assertEqual(found[-5:], [[127], lines(text("xabcy")), listed(1, 2), [127], [127]])

    def test_nothing_in_common(self):
        found = ask(commit(0, text("ab")), commit(1, text("ab")), merge(0, 1), doc(2), parents(2), log(2))
        self.assertEqual(found[2:], [[2], lines(text("ab")), listed(0, 1), listed(2, 1, 0)])

    def test_nothing_in_common_and_one_without_lines(self):
        made = [commit(0, text("ab")), commit(1)]
        self.assertEqual(ask(*made, merge(0, 1), doc(2))[2:], [[2], lines(text("ab"))])
        self.assertEqual(ask(*made, merge(1, 0), doc(2), parents(2))[2:], [[2], lines(text("ab")), listed(1, 0)])

    def test_from_the_nearest_not_the_first(self):
        made = [commit(0, text("ba")), commit(0, text("xba")), branch(1, 1), commit(0, text("xbay")),
                commit(1, text("ba"))]
        # From 1 (xba) one dropped x; from 0 (ba) the other would have added it.
        self.assertEqual(ask(*made, merge(0, 3), doc(4))[5:], [[4], lines(text("bay"))])

    def test_from_the_highest_of_several(self):
        made = CROSSED + [commit(0, text("xabc")), commit(1, text("xabcy"))]
        found = ask(*made, common(5, 6), merge(0, 6), doc(7), parents(7))
        # From 2 (abcy) one dropped y; from 1 (xabc) the other would have added it.
        self.assertEqual(found[8:], [listed(2, 1), [7], lines(text("xabc")), listed(5, 6)])
        self.assertEqual(ask(*made, merge(1, 5), doc(7), parents(7))[8:], [[7], lines(text("xabc")), listed(6, 5)])

    def test_from_the_highest_of_several_that_begin_apart(self):
        made = [commit(0, text("a")), commit(1, text("a")), merge(0, 1), branch(2, 1), merge(2, 0),
                commit(0, text("ab")), commit(2, text("a"))]
        self.assertEqual(ask(*made, common(4, 5), merge(0, 5), doc(6))[7:], [listed(1, 0), [6], lines(text("ab"))])

    def test_a_branch_without_changes_of_its_own(self):
        made = [commit(0, text("ab")), branch(1, 0), commit(0, text("ab")), commit(1, text("b"))]
        self.assertEqual(ask(*made, merge(0, 2), doc(3))[4:], [[3], lines(text("b"))])

    def test_alike_on_both(self):
        self.assertEqual(ask(*apart("ab", "axb", "axb"), merge(0, 2), doc(3))[4:], [[3], lines(text("axb"))])

    def test_64_lines(self):
        base = [[number] for number in range(60)]
        made = [commit(0, base), branch(1, 0), commit(0, [[99]] * 2 + base), commit(1, base + [[98]] * 2)]
        self.assertEqual(ask(*made, merge(0, 2), doc(3))[4:], [[3], lines([[99]] * 2 + base + [[98]] * 2)])

    def test_a_branch_dropped_and_taken_up_again(self):
        found = ask(*APART, drop(0), branch(0, 1), merge(0, 2), parents(3))
        self.assertEqual(found[6:], [[3], listed(1, 2)])

    def test_others_stay_where_they_are(self):
        made = APART + [branch(2, 1), branch(3, 2), merge(0, 2), count()]
        self.assertEqual(ask_last(*made), [4, 8, 4, 3, 2, 3, 0, 0, 0, 0])

    def test_committed_on_then(self):
        found = ask(*APART, merge(0, 2), commit(0, text("z")), parents(4))
        self.assertEqual(found[5:], [[4], listed(3)])

    def test_who_is_named_first_does_not_matter(self):
        for o, a, b in (("abc", "xabc", "abcy"), ("abcd", "acd", "abcde"), ("abc", "xbc", "xbcz")):
            one = ask(*apart(o, a, b), merge(0, 2), doc(3))[-1]
            self.assertEqual(ask(*apart(o, a, b), merge(1, 1), doc(3))[-1], one)
            self.assertEqual(ask(*apart(o, b, a), merge(0, 2), doc(3))[-1], one)


class MergeAgain(unittest.TestCase):
    """H7: with the branch where merge left it, merge again makes nothing."""

    def again(self, made, versions, number, v):
        once = ask(*made, merge(number, v), *everything(versions))
        twice = ask(*made, merge(number, v), merge(number, v), *everything(versions))
        place = len(made)
        self.assertGreaterEqual(once[place][0], 0)
        self.assertEqual(twice[place], once[place])
        self.assertEqual(twice[place + 1], once[place])
        self.assertEqual(twice[place + 2:], once[place + 1:])

    def test_a_version_was_made(self):
        self.again(APART, 4, 0, 2)
        self.again(APART, 4, 1, 1)

    def test_the_branch_was_moved(self):
        self.again([commit(0), branch(1, 0), commit(0)], 2, 1, 1)

    def test_nothing_was_done(self):
        self.again([commit(0), commit(0)], 2, 0, 0)

    def test_the_128th_was_made(self):
        self.again(APART + FULL, 128, 0, 2)

    def test_each_merged_into_the_other(self):
        found = ask(*APART, merge(0, 2), merge(1, 3), merge(0, 3), merge(1, 2), count())
        self.assertEqual(found[4:], [[3], [3], [3], [3], [4, 8, 4, 4, 0, 0, 0, 0, 0, 0]])


class Pick(unittest.TestCase):
    def test_what_a_version_changed_is_done_here(self):
        made = APART + [commit(1, text("zabcy"))]
        # 3 put z at the front, 2 added y: 2 alone is picked.
        found = ask(*made, pick(0, 2), doc(4), parents(4), head(0), head(1), count())
        self.assertEqual(found[5:], [[4], lines(text("xabcy")), listed(1), [4], [3], [5, 8, 5, 4, 0, 0, 0, 0, 0, 0]])

    def test_only_what_that_version_changed(self):
        made = [commit(0, text("abc")), branch(1, 0), commit(1, text("abcy")), commit(1, text("zabcy"))]
        self.assertEqual(ask(*made, pick(0, 2), doc(3), parents(3))[4:], [[3], lines(text("zabc")), listed(0)])

    def test_a_version_without_a_parent(self):
        made = [commit(0, text("ab")), commit(1, text("ab")), commit(2)]
        self.assertEqual(ask(*made, pick(0, 1), doc(3), parents(3))[3:], [[3], lines(text("ab")), listed(0)])
        self.assertEqual(ask(*made, pick(2, 1), doc(3), parents(3))[3:], [[3], lines(text("ab")), listed(2)])
        self.assertEqual(ask(*made, pick(0, 2), doc(3), parents(3))[3:], [[3], lines(text("ab")), listed(0)])

    def test_a_version_with_two_parents(self):
        made = APART + [merge(0, 2), branch(2, 0)]
        # 3 put y behind what its first parent 1 has, and x ahead of what 2 has.
        self.assertEqual(ask(*made, pick(2, 3), doc(4), parents(4))[6:], [[4], lines(text("abcy")), listed(0)])

    def test_a_forebear_is_merged_too(self):
        made = [commit(0, text("ab")), commit(0, text("abc")), commit(0, text("xabc"))]
        found = ask(*made, pick(0, 1), doc(3), parents(3), head(0))
        self.assertEqual(found[3:], [[3], lines(text("xabc")), listed(2), [3]])

    def test_the_branchs_own_version(self):
        made = [commit(0, text("ab")), commit(0, text("abc"))]
        found = ask(*made, pick(0, 1), doc(2), parents(2), head(0))
        self.assertEqual(found[2:], [[2], lines(text("abc")), listed(1), [2]])
        self.assertEqual(ask(commit(0, text("ab")), pick(0, 0), doc(1), parents(1))[1:],
                         [[1], lines(text("ab")), listed(0)])

    def test_a_version_made_from_the_branchs(self):
        made = [commit(0, text("ab")), branch(1, 0), commit(0, text("abc"))]
        found = ask(*made, pick(1, 1), doc(2), parents(2), head(1), head(0))
        self.assertEqual(found[3:], [[2], lines(text("abc")), listed(0), [2], [1]])

    def test_picked_again_makes_one_more(self):
        found = ask(*APART, pick(0, 2), pick(0, 2), doc(4), parents(4))
        self.assertEqual(found[4:], [[3], [4], lines(text("xabcy")), listed(3)])

    def test_the_last_of_128_versions(self):
        self.assertEqual(ask(*APART, *FULL, pick(0, 2), doc(127))[-2:], [[127], lines(text("xabcy"))])


class Undo(unittest.TestCase):
    def test_what_a_version_changed_is_taken_back(self):
        made = [commit(0, text("abc")), commit(0, text("xabc")), commit(0, text("xabcy"))]
        found = ask(*made, undo(0, 1), doc(3), parents(3), head(0), count())
        self.assertEqual(found[3:], [[3], lines(text("abcy")), listed(2), [3], [4, 8, 4, 0, 0, 0, 0, 0, 0, 0]])

    def test_a_dropped_line_comes_back(self):
        made = [commit(0, text("abc")), commit(0, text("bc")), commit(0, text("bcd"))]
        self.assertEqual(ask(*made, undo(0, 1), doc(3))[3:], [[3], lines(text("abcd"))])

    def test_a_version_without_a_parent(self):
        made = [commit(0, text("ab"))]
        self.assertEqual(ask(*made, undo(0, 0), doc(1), parents(1))[1:], [[1], lines([]), listed(0)])

    def test_a_version_with_two_parents(self):
        made = APART + [merge(0, 2)]
        found = ask(*made, undo(0, 3), doc(4), parents(4))
        self.assertEqual(found[5:], [[4], lines(text("xabc")), listed(3)])
        made = APART + [merge(1, 1)]
        self.assertEqual(ask(*made, undo(1, 3), doc(4), parents(4))[5:], [[4], lines(text("abcy")), listed(3)])

    def test_of_a_version_that_is_no_forebear(self):
        # 2 put y behind c; without y there is nothing to take back.
        found = ask(*apart("abc", "xabc", "abcy"), commit(0, text("xabcy")), undo(0, 2), doc(4), parents(4))
        self.assertEqual(found[5:], [[4], lines(text("xabc")), listed(3)])
        found = ask(*APART, undo(0, 2), doc(3), parents(3), head(1))
        self.assertEqual(found[4:], [[3], lines(text("xabc")), listed(1), [2]])

    def test_undone_twice(self):
        made = [commit(0, text("a")), commit(0, text("ab"))]
        found = ask(*made, undo(0, 1), undo(0, 2), doc(3), parents(3), undo(0, 1), doc(4))
        self.assertEqual(found[2:], [[2], [3], lines(text("ab")), listed(2), [4], lines(text("a"))])

    def test_picked_behind(self):
        found = ask(*APART, merge(0, 2), undo(0, 1), doc(4), pick(0, 1), doc(5), parents(5))
        self.assertEqual(found[5:], [[4], lines(text("abcy")), [5], lines(text("xabcy")), listed(4)])


class UndoneAtOnce(unittest.TestCase):
    """H7: it gives the document that the branch had."""

    def undone(self, made, call, version):
        """The call makes the version on branch 0."""
        found = ask(*made, call, undo(0, version), doc(version + 1), parents(version + 1), head(0))
        before = ask(*made, head(0))[-1][0]
        self.assertEqual(found[len(made):],
                         [[version], [version + 1], ask_last(*made, doc(before)), listed(version), [version + 1]])

    def test_commit(self):
        for word in ("abc", "", "a", "xyz", "cba", "abcabc", "xaybzc"):
            self.undone([commit(0, text("abc"))], commit(0, text(word)), 1)
        self.undone([commit(0)], commit(0, text("abc")), 1)
        self.undone([commit(0, [[1] * 64] * 64)], commit(0, [[2] * 64] * 64), 1)

    def test_merge(self):
        self.undone(APART, merge(0, 2), 3)

    def test_pick_and_undo(self):
        self.undone(APART, pick(0, 2), 3)
        self.undone(APART, undo(0, 1), 3)
        self.undone(APART, undo(0, 2), 3)

    def test_the_127th(self):
        self.undone(APART + FULL[1:], merge(0, 2), 126)

    def test_by_chance(self):
        chance = random.Random(7)
        for turn in range(100):
            words = ["".join(chance.choices("abc", k=chance.randrange(9))) for one in range(2)]
            self.undone([commit(0, text(words[0]))], commit(0, text(words[1])), 1)


class AsTry(unittest.TestCase):
    """merge, pick and undo give what try gives of the same documents."""

    def same(self, made, call, three):
        versions = 3
        told, document, tried = ask(*made, call, doc(versions), attempt(*three))[-3:]
        if tried[0] == -3:
            self.assertEqual(told, tried)
        else:
            self.assertEqual((told, document), ([versions], tried))

    def test_by_chance(self):
        chance = random.Random(5)
        for turn in range(200):
            o = "".join(chance.choices("abcd", k=6))
            a, b = [o[:place] + chance.choice(["", "x", "xy"]) + o[place + chance.randrange(2):]
                    for place in (chance.randrange(7), chance.randrange(7))]
            made = apart(o, a, b)
            self.same(made, merge(0, 2), (text(o), text(a), text(b)))
            self.same(made, pick(0, 2), (text(o), text(a), text(b)))
            self.same(made, pick(1, 1), (text(o), text(b), text(a)))
            self.same(made, undo(0, 2), (text(b), text(a), text(o)))
            self.same(made, undo(0, 0), (text(o), text(a), []))
            self.same(made, pick(0, 0), ([], text(a), text(o)))


if __name__ == "__main__":
    unittest.main()
