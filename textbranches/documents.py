"""Documents: lists of lines, each a list of bytes (0 to 255)."""

MOST_LINES = 64
MOST_BYTES = 64


def fits(document):
    if len(document) > MOST_LINES:
        return False
    return all([len(line) <= MOST_BYTES for line in document])
