"""Calls written by name, asked of one new object, and their answers taken apart."""

from textbranches.histories import answers

LAST = 2 ** 64 - 1


def written(number, numbers, lists=()):
    call = [number, len(numbers), *numbers, len(lists)]
    for one in lists:
        call += [len(one), *one]
    return call


def commit(branch, document=()):
    return written(0, [branch], document)


def branch(number, version):
    return written(1, [number, version])


def drop(number):
    return written(2, [number])


def head(number):
    return written(3, [number])


def doc(version):
    return written(4, [version])


def parents(version):
    return written(5, [version])


def log(version):
    return written(6, [version])


def common(u, v):
    return written(7, [u, v])


def way(u, v):
    return written(8, [u, v])


def merge(number, version):
    return written(9, [number, version])


def pick(number, version):
    return written(10, [number, version])


def undo(number, version):
    return written(11, [number, version])


def attempt(o, a, b):
    """The call try."""
    return written(12, [len(o), len(a)], [*o, *a, *b])


def origins(version):
    return written(13, [version])


def count():
    return written(14, [])


def joined(calls):
    return [number for call in calls for number in call]


def ask(*calls):
    """One answer for each call, as a list of numbers."""
    told = answers(joined(calls))
    found = []
    place = 0
    while place < len(told):
        size = told[place]
        one = told[place + 1:place + 1 + size]
        if size < 1 or len(one) != size:
            raise AssertionError(f"an answer of {size} numbers is told at {place}, {len(one)} are there")
        found.append(one)
        place += 1 + size
    if len(found) != len(calls):
        raise AssertionError(f"{len(calls)} calls, but {len(found)} answers")
    return found


def ask_last(*calls):
    return ask(*calls)[-1]


def listed(*numbers):
    """How parents, log, common and origins answer these numbers."""
    return [len(numbers), len(numbers), *numbers]


def text(word):
    """A document of one line of one byte for each letter."""
    return [[ord(letter)] for letter in word]


def lines(document):
    """How doc and try answer this document."""
    return [len(document)] + [number for line in document for number in [len(line), *line]]


def clashes(*parts):
    """How clashes are answered, each given as its six numbers."""
    return [-3, 6 * len(parts), *[number for part in parts for number in part]]


def steps(kept, word, added=()):
    """How way answers, its steps written as k, d and a."""
    return [kept, len(word), *["kda".index(letter) for letter in word], *lines(added)[1:]]


def everything(versions):
    """Calls that show all of a state with so many versions, and that there is not one more."""
    shown = [head(number) for number in range(8)] + [count()]
    for version in range(versions + 1):
        shown += [doc(version), parents(version), log(version), origins(version)]
    return shown
