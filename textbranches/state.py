"""What one object keeps: its versions, and where its branches are."""

from textbranches.origins import origins_of

MOST_VERSIONS = 128
BRANCHES = 8


def is_branch(branch):
    return branch < BRANCHES


class State:
    """Version n has documents[n], parents[n] and origins[n]; heads[b] is where branch b is, or None.

    origins[n] tells of each line where it came in. It's found once, when the
    version is made: it hangs on lower versions alone, and these stay as they are.
    """

    def __init__(self):
        self.documents = []
        self.parents = []
        self.origins = []
        self.heads = [None] * BRANCHES

    def has_version(self, version):
        return version < len(self.documents)

    def is_full(self):
        return len(self.documents) >= MOST_VERSIONS

    def is_at_none(self, branch):
        return self.heads[branch] is None

    def first_document(self, versions):
        """The document of the first of these versions; of none, the one without lines."""
        return self.documents[versions[0]] if versions else []

    def add_version(self, branch, document, parents):
        """Makes a version, with the branch at it then, and gives its number."""
        version = len(self.documents)
        self.documents.append(document)
        self.parents.append(parents)
        self.origins.append(origins_of(version, self.documents, self.parents, self.origins))
        self.heads[branch] = version
        return version
