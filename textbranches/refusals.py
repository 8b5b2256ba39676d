"""The answers that refuse a call: a number below 0 alone, but clashes have a list with it."""


def unfit():
    """A branch above 7, or a document that doesn't fit."""
    return [-1]


def missing():
    """No such version, or the branch is at none."""
    return [-4]


def clashing(clashes):
    """Clashes, told as one list of six numbers for each."""
    return [-3, len(clashes)] + clashes


def full():
    """There are as many versions as there may be and one more would be made, or a merged document doesn't fit."""
    return [-6]
