"""The calls, each answered with a list: the number, then each list behind how many numbers it has.

Each call is given the state, its whole numbers and its lists. It asks for the
refusals in their order before it changes anything.
"""

from textbranches.documents import fits
from textbranches.forebears import forebears_of
from textbranches.forebears import nearest_in_common
from textbranches.refusals import full
from textbranches.refusals import missing
from textbranches.refusals import unfit
from textbranches.state import is_branch


def counted(numbers):
    # How many stands twice: as the number that's answered, and before the list.
    return [len(numbers), len(numbers)] + numbers


def counted_lines(document):
    told = [len(document)]
    for line in document:
        told.append(len(line))
        told.extend(line)
    return told


def answer_commit(state, numbers, lists):
    branch = numbers[0]
    if not is_branch(branch) or not fits(lists):
        return unfit()
    if state.is_full():
        return full()
    parents = [] if state.is_at_none(branch) else [state.heads[branch]]
    return [state.add_version(branch, lists, parents)]


def answer_branch(state, numbers, lists):
    branch = numbers[0]
    version = numbers[1]
    if not is_branch(branch):
        return unfit()
    if not state.has_version(version):
        return missing()
    state.heads[branch] = version
    return [0]


def answer_drop(state, numbers, lists):
    branch = numbers[0]
    if not is_branch(branch):
        return unfit()
    if state.is_at_none(branch):
        return missing()
    state.heads[branch] = None
    return [0]


def answer_head(state, numbers, lists):
    branch = numbers[0]
    if not is_branch(branch):
        return unfit()
    if state.is_at_none(branch):
        return missing()
    return [state.heads[branch]]


def answer_doc(state, numbers, lists):
    version = numbers[0]
    if not state.has_version(version):
        return missing()
    return counted_lines(state.documents[version])


def answer_parents(state, numbers, lists):
    version = numbers[0]
    if not state.has_version(version):
        return missing()
    return counted(state.parents[version])


def answer_log(state, numbers, lists):
    version = numbers[0]
    if not state.has_version(version):
        return missing()
    return counted(forebears_of(state.parents, version))


def answer_common(state, numbers, lists):
    u = numbers[0]
    v = numbers[1]
    if not state.has_version(u) or not state.has_version(v):
        return missing()
    return counted(nearest_in_common(state.parents, u, v))


# The place of each is the call's number.
CALLS = (
    answer_commit,
    answer_branch,
    answer_drop,
    answer_head,
    answer_doc,
    answer_parents,
    answer_log,
    answer_common,
)


def answer_call(state, number, numbers, lists):
    return CALLS[number](state, numbers, lists)
