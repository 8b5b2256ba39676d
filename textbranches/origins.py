"""Where the lines of a version came in."""

from textbranches.ways import kept_places
from textbranches.ways import way_between


def origins_of(version, documents, parents, origins):
    """Of each line of the version where it came in; origins has this of every lower version."""
    document = documents[version]
    found = [version] * len(document)
    # The first parent counts, so it's walked last and overwrites what the other one told.
    for parent in reversed(parents[version]):
        for i, j in kept_places(way_between(documents[parent], document)):
            found[j] = origins[parent][i]
    return found
