"""way, and H1."""

import itertools
import unittest

from tests.helper import ask, commit, steps, text, way


def every_document(letters, most):
    return [text(word) for size in range(most + 1) for word in itertools.product(letters, repeat=size)]


def every_way(a, b):
    """All ways from a to b, as texts of k, d and a."""
    if not a or not b:
        return ["d" * len(a) + "a" * len(b)]
    found = ["d" + rest for rest in every_way(a[1:], b)] + ["a" + rest for rest in every_way(a, b[1:])]
    if a[0] == b[0]:
        found += ["k" + rest for rest in every_way(a[1:], b[1:])]
    return found


def most_kept(a, b):
    return max(one.count("k") for one in every_way(a, b))


def way_by_words(a, b):
    if not a or not b:
        return "d" * len(a) + "a" * len(b)
    if a[0] == b[0]:
        return "k" + way_by_words(a[1:], b[1:])
    if most_kept(a[1:], b) >= most_kept(a, b[1:]):
        return "d" + way_by_words(a[1:], b)
    return "a" + way_by_words(a, b[1:])


class Told(unittest.TestCase):
    def told(self, a, b, kept, word, added=()):
        found = ask(commit(0, a), commit(1, b), way(0, 1))
        self.assertEqual(found[2], steps(kept, word, added))


class Way(Told):
    def test_the_very_numbers(self):
        found = ask(commit(0, [[1, 2], [3]]), commit(0, [[3], [], [4, 5]]), way(0, 1), way(1, 0))
        self.assertEqual(found[2], [1, 4, 1, 0, 2, 2, 0, 2, 4, 5])
        self.assertEqual(found[3], [1, 4, 2, 0, 1, 1, 2, 1, 2])

    def test_to_itself(self):
        for word in ("", "a", "ab", "aab", "abcabc"):
            document = text(word)
            self.assertEqual(ask(commit(0, document), way(0, 0))[1], steps(len(word), "k" * len(word)))
            self.told(document, document, len(word), "k" * len(word))

    def test_to_the_document_without_lines(self):
        self.told(text("ab"), [], 0, "dd")
        self.told([[]], [], 0, "d")

    def test_from_the_document_without_lines(self):
        self.told([], text("ba"), 0, "aa", text("ba"))
        self.told([], [[]], 0, "a", [[]])

    def test_neither_has_lines(self):
        self.assertEqual(ask(commit(0), commit(1), way(0, 1))[2], [0, 0])

    def test_dropped_where_as_many_can_be_kept(self):
        self.told(text("a"), text("b"), 0, "da", text("b"))
        self.told(text("ab"), text("ba"), 1, "dka", text("a"))
        self.told(text("ax"), text("bx"), 1, "dak", text("b"))
        self.told(text("ab"), text("cd"), 0, "ddaa", text("cd"))
        self.told(text("abc"), text("cab"), 2, "akkd", text("c"))

    def test_dropped_where_more_can_be_kept_so(self):
        self.told(text("ab"), text("b"), 1, "dk")
        self.told(text("abc"), text("bca"), 2, "dkka", text("a"))

    def test_added_where_more_can_be_kept_so(self):
        self.told(text("b"), text("ab"), 1, "ak", text("a"))
        self.told(text("ab"), text("xab"), 2, "akk", text("x"))
        self.told(text("bcd"), text("abxcd"), 3, "akakk", text("ax"))

    def test_kept_where_the_next_are_the_same(self):
        self.told(text("ab"), text("aab"), 2, "kak", text("a"))
        self.told(text("aab"), text("ab"), 2, "kdk")

    def test_lines_that_come_more_than_once(self):
        self.told(text("aaa"), text("aa"), 2, "kkd")
        self.told(text("aa"), text("aaa"), 2, "kka", text("a"))
        self.told(text("abab"), text("baba"), 3, "dkkka", text("a"))
        self.told(text("abcab"), text("cabab"), 4, "akkdkk", text("c"))
        self.told(text("aba"), text("bab"), 2, "dkka", text("b"))

    def test_lines_of_no_bytes(self):
        self.told([[]], [[], []], 1, "ka", [[]])
        self.told([[], [7]], [[7], []], 1, "dka", [[]])
        self.told([[0]], [[]], 0, "da", [[]])

    def test_lines_are_the_same_byte_by_byte(self):
        self.told([[1]], [[1, 1]], 0, "da", [[1, 1]])
        self.told([[1, 2]], [[2, 1]], 0, "da", [[2, 1]])
        self.told([[1] * 63 + [2]], [[1] * 63 + [3]], 0, "da", [[1] * 63 + [3]])

    def test_added_lines_in_order(self):
        self.told(text("m"), [[1], [2, 2], [109], [3, 3, 3]], 1, "aaka", [[1], [2, 2], [3, 3, 3]])

    def test_of_versions_on_one_branch(self):
        found = ask(commit(0, text("ab")), commit(0, text("b")), commit(0, text("bc")), way(0, 2), way(2, 1))
        self.assertEqual(found[3:], [steps(1, "dka", text("c")), steps(1, "kd")])

    def test_64_lines(self):
        first = [[number] for number in range(64)]
        self.told(first, first[::-1], 1, "d" * 63 + "k" + "a" * 63, first[-2::-1])
        self.told(first, first[1:] + first[:1], 63, "d" + "k" * 63 + "a", first[:1])
        self.told([[5]] * 64, [[5]] * 64, 64, "k" * 64)
        self.told([[5] * 64] * 64, [[6] * 64] * 64, 0, "d" * 64 + "a" * 64, [[6] * 64] * 64)


class EveryPair(unittest.TestCase):
    """H1, on all pairs of small documents."""

    def holds(self, a, b, told):
        size = told[1]
        word = "".join("kda"[number] for number in told[2:2 + size])
        self.assertEqual(told[0], word.count("k"))
        added = [line for line, step in zip(b, word.replace("d", "")) if step == "a"]
        self.assertEqual(told, steps(told[0], word, added))
        kept = [line for line, step in zip(a, word.replace("a", "")) if step == "k"]
        self.assertEqual(kept, [line for line, step in zip(b, word.replace("d", "")) if step == "k"])
        self.assertEqual(len(word.replace("a", "")), len(a))
        self.assertEqual(len(word.replace("d", "")), len(b))
        self.assertEqual(told[0], most_kept(a, b))
        self.assertEqual(word, way_by_words(a, b))

    def test_of_two_and_of_three_lines(self):
        for documents in (every_document("ab", 4), every_document("abc", 3)):
            made = [commit(0, document) for document in documents]
            for u, a in enumerate(documents):
                found = ask(*made, *[way(u, v) for v in range(len(documents))])
                for v, b in enumerate(documents):
                    self.holds(a, b, found[len(made) + v])


if __name__ == "__main__":
    unittest.main()
