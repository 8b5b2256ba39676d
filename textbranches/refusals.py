"""The answers that refuse a call: a number below 0 alone."""


def unfit():
    """A branch above 7, or a document that doesn't fit."""
    return [-1]


def missing():
    """No such version, or the branch is at none."""
    return [-4]


def full():
    """There are as many versions as there may be, and one more would be made."""
    return [-6]
