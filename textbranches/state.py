"""What one object keeps: its versions, and where its branches are."""

MOST_VERSIONS = 128
BRANCHES = 8


def is_branch(branch):
    return branch < BRANCHES


class State:
    """Version n has documents[n] and parents[n]; heads[b] is where branch b is, or None."""

    def __init__(self):
        self.documents = []
        self.parents = []
        self.heads = [None] * BRANCHES

    def has_version(self, version):
        return version < len(self.documents)

    def is_full(self):
        return len(self.documents) >= MOST_VERSIONS

    def is_at_none(self, branch):
        return self.heads[branch] is None

    def add_version(self, branch, document, parents):
        """Makes a version, with the branch at it then, and gives its number."""
        version = len(self.documents)
        self.documents.append(document)
        self.parents.append(parents)
        self.heads[branch] = version
        return version
