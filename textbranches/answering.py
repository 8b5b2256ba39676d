"""The calls, each answered with a list: the number, then each list behind how many numbers it has.

Each call is given the state, its whole numbers and its lists. It asks for the
refusals in their order before it changes anything.
"""

from textbranches.documents import fits
from textbranches.forebears import forebears_of
from textbranches.forebears import nearest_in_common
from textbranches.merging import merged_from
from textbranches.refusals import clashing
from textbranches.refusals import full
from textbranches.refusals import missing
from textbranches.refusals import unfit
from textbranches.state import is_branch
from textbranches.ways import added_lines
from textbranches.ways import kept_places
from textbranches.ways import way_between


def counted(numbers):
    # How many stands twice: as the number that's answered, and before the list.
    return [len(numbers), len(numbers)] + numbers


def each_line(document):
    told = []
    for line in document:
        told.append(len(line))
        told.extend(line)
    return told


def counted_lines(document):
    return [len(document)] + each_line(document)


def answer_commit(state, numbers, lists):
    branch = numbers[0]
    if not is_branch(branch) or not fits(lists):
        return unfit()
    if state.is_full():
        return full()
    parents = [] if state.is_at_none(branch) else [state.heads[branch]]
    return [state.add_version(branch, lists, parents)]


def answer_branch(state, numbers, lists):
    branch = numbers[0]
    version = numbers[1]
    if not is_branch(branch):
        return unfit()
    if not state.has_version(version):
        return missing()
    state.heads[branch] = version
    return [0]


def answer_drop(state, numbers, lists):
    branch = numbers[0]
    if not is_branch(branch):
        return unfit()
    if state.is_at_none(branch):
        return missing()
    state.heads[branch] = None
    return [0]


def answer_head(state, numbers, lists):
    branch = numbers[0]
    if not is_branch(branch):
        return unfit()
    if state.is_at_none(branch):
        return missing()
    return [state.heads[branch]]


def answer_doc(state, numbers, lists):
    version = numbers[0]
    if not state.has_version(version):
        return missing()
    return counted_lines(state.documents[version])


def answer_parents(state, numbers, lists):
    version = numbers[0]
    if not state.has_version(version):
        return missing()
    return counted(state.parents[version])


def answer_log(state, numbers, lists):
    version = numbers[0]
    if not state.has_version(version):
        return missing()
    return counted(forebears_of(state.parents, version))


def answer_common(state, numbers, lists):
    u = numbers[0]
    v = numbers[1]
    if not state.has_version(u) or not state.has_version(v):
        return missing()
    return counted(nearest_in_common(state.parents, u, v))


def answer_way(state, numbers, lists):
    u = numbers[0]
    v = numbers[1]
    if not state.has_version(u) or not state.has_version(v):
        return missing()
    steps = way_between(state.documents[u], state.documents[v])
    added = each_line(added_lines(steps, state.documents[v]))
    return [len(kept_places(steps)), len(steps)] + steps + added


def refused_ahead(state, branch, version):
    """What refuses merge, pick and undo before anything is merged, or None."""
    if not is_branch(branch):
        return unfit()
    if state.is_at_none(branch) or not state.has_version(version):
        return missing()
    return None


def make_merged(state, branch, o, b, more_parents):
    """A new version of the branch's document and b, that come from o; its first parent is where the branch is."""
    u = state.heads[branch]
    merged = merged_from(o, state.documents[u], b)
    if merged.clashes:
        return clashing(merged.clashes)
    if state.is_full() or not fits(merged.document):
        return full()
    return [state.add_version(branch, merged.document, [u] + more_parents)]


def answer_merge(state, numbers, lists):
    branch = numbers[0]
    v = numbers[1]
    refusal = refused_ahead(state, branch, v)
    if refusal is not None:
        return refusal
    u = state.heads[branch]
    if v in forebears_of(state.parents, u):
        return [u]
    if u in forebears_of(state.parents, v):
        state.heads[branch] = v
        return [v]
    o = state.first_document(nearest_in_common(state.parents, u, v))
    return make_merged(state, branch, o, state.documents[v], [v])


def answer_pick(state, numbers, lists):
    branch = numbers[0]
    v = numbers[1]
    refusal = refused_ahead(state, branch, v)
    if refusal is not None:
        return refusal
    before = state.first_document(state.parents[v])
    return make_merged(state, branch, before, state.documents[v], [])


def answer_undo(state, numbers, lists):
    branch = numbers[0]
    v = numbers[1]
    refusal = refused_ahead(state, branch, v)
    if refusal is not None:
        return refusal
    before = state.first_document(state.parents[v])
    return make_merged(state, branch, state.documents[v], before, [])


def answer_try(state, numbers, lists):
    a_start = numbers[0]
    b_start = numbers[0] + numbers[1]
    o = lists[:a_start]
    a = lists[a_start:b_start]
    b = lists[b_start:]
    if not fits(o) or not fits(a) or not fits(b):
        return unfit()
    merged = merged_from(o, a, b)
    if merged.clashes:
        return clashing(merged.clashes)
    if not fits(merged.document):
        return full()
    return counted_lines(merged.document)


def answer_origins(state, numbers, lists):
    version = numbers[0]
    if not state.has_version(version):
        return missing()
    return counted(state.origins[version])


def answer_count(state, numbers, lists):
    heads = [0 if version is None else version + 1 for version in state.heads]
    return [len(state.documents), len(heads)] + heads


# The place of each is the call's number.
CALLS = (
    answer_commit,
    answer_branch,
    answer_drop,
    answer_head,
    answer_doc,
    answer_parents,
    answer_log,
    answer_common,
    answer_way,
    answer_merge,
    answer_pick,
    answer_undo,
    answer_try,
    answer_origins,
    answer_count,
)


def answer_call(state, number, numbers, lists):
    return CALLS[number](state, numbers, lists)
