"""try: documents merged three ways; H2 and H3."""

import itertools
import random
import unittest

from tests.helper import ask, ask_last, attempt, clashes, count, lines, text


def about(told):
    """The same answer with a and b changed about."""
    if told[0] != -3:
        return told
    parts = [told[start:start + 6] for start in range(2, len(told), 6)]
    return clashes(*[part[:2] + part[4:] + part[2:4] for part in parts])


class Tried(unittest.TestCase):
    def tried(self, o, a, b, expected):
        self.assertEqual(ask(attempt(o, a, b), attempt(o, b, a)), [expected, about(expected)])

    def merged(self, o, a, b, word):
        self.tried(text(o), text(a), text(b), lines(text(word)))

    def clashing(self, o, a, b, *parts):
        self.tried(text(o), text(a), text(b), clashes(*parts))


class VeryNumbers(unittest.TestCase):
    def test_merged(self):
        call = [12, 2, 1, 2, 5, 1, 7, 2, 8, 8, 1, 7, 1, 7, 0]
        self.assertEqual(ask(call), [[3, 2, 8, 8, 1, 7, 0]])

    def test_clashing(self):
        call = [12, 2, 2, 2, 7, 1, 5, 1, 7, 1, 5, 1, 8, 1, 5, 1, 9, 1, 10]
        self.assertEqual(ask(call), [[-3, 6, 1, 1, 1, 1, 1, 2]])

    def test_without_any_line(self):
        self.assertEqual(ask([12, 2, 0, 0, 0]), [[0]])


class OneChanged(Tried):
    def test_it_is_the_others(self):
        for o, b in (("abc", "abc"), ("abc", "xbc"), ("abc", "abx"), ("abc", "ac"), ("abc", "abxc"), ("abc", "cba"),
                     ("abc", "xyz"), ("abab", "baba"), ("aaa", "aa"), ("", "ab"), ("ab", "")):
            self.merged(o, o, b, b)


class BothAlike(Tried):
    def test_done_once(self):
        for o, a in (("abc", "axc"), ("abc", "xabc"), ("abc", "abcx"), ("abc", "ac"), ("abc", "xyz"), ("abc", "bca"),
                     ("", "ab"), ("ab", ""), ("aba", "bab")):
            self.merged(o, a, a, a)

    def test_alike_in_one_part_apart_in_others(self):
        self.merged("abcde", "axcde", "axcye", "axcye")
        self.merged("abcde", "xabcd", "xabcde", "xabcd")
        self.merged("abcde", "zbxde", "abxdy", "zbxdy")


class BothApart(Tried):
    def test_all_is_done(self):
        self.merged("abc", "xabc", "abcy", "xabcy")
        self.merged("abc", "xbc", "aby", "xby")
        self.merged("abcd", "bcd", "abc", "bc")
        self.merged("abc", "bc", "abcx", "bcx")
        self.merged("abcde", "xbcde", "abyde", "xbyde")
        self.merged("abcde", "xbcdz", "abyde", "xbydz")

    def test_several_in_turn(self):
        self.merged("abcdefg", "xbcdyfg", "abpdefq", "xbpdyfq")

    def test_beside_one_line_that_stands_fast(self):
        self.merged("abc", "xbc", "abz", "xbz")
        self.merged("a", "xa", "ay", "xay")

    def test_lines_that_come_more_than_once(self):
        self.merged("aaa", "aaaa", "aaa", "aaaa")
        self.merged("abab", "xabab", "ababy", "xababy")
        self.merged("aba", "ba", "ab", "b")

    def test_lines_of_no_bytes(self):
        self.tried([[], [1], []], [[2], [], [1], []], [[], [1], [], [3]], lines([[2], [], [1], [], [3]]))
        self.tried([[1]], [[], [1]], [[1], []], lines([[], [1], []]))


class Clashes(Tried):
    def test_at_the_front(self):
        self.clashing("abc", "xbc", "ybc", (0, 1, 0, 1, 0, 1))
        self.clashing("abc", "xabc", "yyabc", (0, 0, 0, 1, 0, 2))

    def test_between(self):
        self.clashing("abc", "axc", "ayc", (1, 1, 1, 1, 1, 1))
        self.clashing("abcd", "axd", "abyyyd", (1, 2, 1, 1, 1, 4))
        self.clashing("ab", "axb", "ayyb", (1, 0, 1, 1, 1, 2))

    def test_at_the_end(self):
        self.clashing("abc", "abx", "aby", (2, 1, 2, 1, 2, 1))
        self.clashing("ab", "abx", "abyz", (2, 0, 2, 1, 2, 2))

    def test_dropped_by_one_changed_by_the_other(self):
        self.clashing("abc", "ac", "ayc", (1, 1, 1, 0, 1, 1))
        self.clashing("a", "", "b", (0, 1, 0, 0, 0, 1))

    def test_the_whole(self):
        self.clashing("abc", "xy", "z", (0, 3, 0, 2, 0, 1))

    def test_in_several_parts(self):
        self.clashing("abcde", "xbyde", "pbqde", (0, 1, 0, 1, 0, 1), (2, 1, 2, 1, 2, 1))
        self.clashing("abc", "xxabyc", "pabqqcr", (0, 0, 0, 2, 0, 1), (2, 0, 4, 1, 3, 2))
        self.clashing("abcde", "xbycz", "pbqcr", (0, 1, 0, 1, 0, 1), (2, 0, 2, 1, 2, 1), (3, 2, 4, 1, 4, 1))

    def test_parts_that_do_not_clash_are_not_told(self):
        self.clashing("abcde", "xbcye", "abcze", (3, 1, 3, 1, 3, 1))
        self.clashing("abcde", "xxbcye", "abcze", (3, 1, 4, 1, 3, 1))
        self.clashing("abcde", "pbycd", "pbzcdqq", (2, 0, 2, 1, 2, 1), (4, 1, 5, 0, 5, 2))

    def test_beside_lines_that_only_one_keeps(self):
        self.clashing("abc", "xbc", "ayc", (0, 2, 0, 2, 0, 2))
        self.clashing("ab", "xb", "ay", (0, 2, 0, 2, 0, 2))

    def test_lines_moved(self):
        # The ways keep b, c and a, b: b alone stands fast.
        self.clashing("abc", "bca", "cab", (0, 1, 0, 0, 0, 2), (2, 1, 1, 2, 3, 0))

    def test_added_at_one_place(self):
        self.clashing("a", "ax", "ay", (1, 0, 1, 1, 1, 1))

    def test_one_begins_like_the_other(self):
        self.clashing("a", "axy", "ax", (1, 0, 1, 2, 1, 1))

    def test_makes_nothing(self):
        self.assertEqual(ask(attempt(text("a"), text("b"), text("c")), count()),
                         [clashes((0, 1, 0, 1, 0, 1)), [0, 8] + [0] * 8])


class WithoutLines(Tried):
    def test_o(self):
        self.merged("", "", "ab", "ab")
        self.merged("", "ab", "ab", "ab")
        self.clashing("", "ab", "ba", (0, 0, 0, 2, 0, 2))

    def test_a_and_b(self):
        self.merged("ab", "", "ab", "")
        self.merged("ab", "", "", "")
        self.clashing("ab", "", "b", (0, 2, 0, 0, 0, 1))
        self.clashing("ab", "", "abc", (0, 2, 0, 0, 0, 3))

    def test_none_has(self):
        self.merged("", "", "", "")


class Large(Tried):
    def test_64_lines_each(self):
        o = [[number] * 64 for number in range(64)]
        a = [[100]] + o[1:]
        b = o[:63] + [[101]]
        self.assertEqual(ask(attempt(o, a, []))[0][0], -3)
        self.tried(o, a, b, lines([[100]] + o[1:63] + [[101]]))

    def test_64_lines_merged(self):
        o = [[number] for number in range(60)]
        self.tried(o, [[200], [201]] + o, o + [[202], [203]], lines([[200], [201]] + o + [[202], [203]]))

    def test_every_line_clashes(self):
        o = [line for number in range(32) for line in ([number], [100 + number])]
        a = [line for number in range(32) for line in ([201], [100 + number])]
        b = [line for number in range(32) for line in ([202], [100 + number])]
        self.tried(o, a, b, clashes(*[(2 * number, 1) * 3 for number in range(32)]))


class EveryThree(unittest.TestCase):
    """H2 and H3 on all small documents and on larger ones by chance."""

    def holds(self, o, a, b, told):
        if a == o or a == b:
            self.assertEqual(told, lines(b))
        if b == o:
            self.assertEqual(told, lines(a))
        if told[0] == -3:
            self.clash_holds(o, a, b, told)

    def clash_holds(self, o, a, b, told):
        self.assertEqual((told[1] % 6, len(told)), (0, told[1] + 2))
        self.assertGreater(told[1], 0)
        behind = (0, 0, 0)
        for start in range(2, len(told), 6):
            part = told[start:start + 6]
            places = part[::2]
            ends = [part[0] + part[1], part[2] + part[3], part[4] + part[5]]
            of_o, of_a, of_b = [one[place:end] for one, place, end in zip((o, a, b), places, ends)]
            self.assertEqual([len(of_o), len(of_a), len(of_b)], part[1::2])
            self.assertTrue(of_a != of_o and of_b != of_o and of_a != of_b)
            before = [one[place - 1] for one, place in zip((o, a, b), places) if place > 0]
            after = [one[end] for one, end in zip((o, a, b), ends) if end < len(one)]
            for fast in (before, after):
                self.assertIn(len(fast), (0, 3))
                self.assertTrue(all(line == fast[0] for line in fast))
            self.assertTrue(all(place >= least for place, least in zip(places, behind)))
            behind = [end + 1 for end in ends]

    def test_small(self):
        documents = [text(word) for size in range(4) for word in itertools.product("ab", repeat=size)]
        for o, a in itertools.product(documents, repeat=2):
            found = ask(*[attempt(o, a, b) for b in documents], *[attempt(o, b, a) for b in documents])
            for place, b in enumerate(documents):
                self.holds(o, a, b, found[place])
                self.assertEqual(found[len(documents) + place], about(found[place]))

    def changed(self, chance, document, first, end):
        document = list(document)
        for turn in range(chance.randrange(4)):
            place = chance.randrange(first, end)
            document[place:place + chance.randrange(2)] = text(chance.choice(["", "p", "pq", "qp"]))
            end = min(end, len(document))
        return document

    def test_by_chance(self):
        chance = random.Random(8)
        for turn in range(300):
            o = text([chance.choice("abcdpq") for line in range(12)])
            a = self.changed(chance, o, 0, 8)
            b = self.changed(chance, o, 4, 12)
            found = ask(attempt(o, a, b), attempt(o, b, a))
            self.holds(o, a, b, found[0])
            self.assertEqual(found[1], about(found[0]))

    def test_what_they_did_apart_is_all_done(self):
        chance = random.Random(9)
        for turn in range(300):
            # All lines of o differ, and line 10 parts what a does from what b does.
            o = [[number] for number in range(21)]
            front = self.changed(chance, o[:10], 0, 9)
            behind = self.changed(chance, o[11:], 0, 9)
            self.assertEqual(ask_last(attempt(o, front + o[10:], o[:11] + behind)), lines(front + o[10:11] + behind))


if __name__ == "__main__":
    unittest.main()
