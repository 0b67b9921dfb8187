"""Tests of values of any kind, for all files that judge what they are handed."""


def is_number(thing):
    """Whether it is an integer; Python counts True and False as integers, the package does not."""
    return isinstance(thing, int) and not isinstance(thing, bool)


def is_name(thing):
    """Whether it is a string of 1 to 8 letters a to z."""
    return isinstance(thing, str) and 1 <= len(thing) <= 8 and all(["a" <= sign <= "z" for sign in thing])


def is_ascending(row):
    """Whether each item of a row of comparable values is greater than the one ahead of it."""
    return all([row[at] < row[at + 1] for at in range(len(row) - 1)])


def is_name_set(thing):
    """Whether it is an ascending tuple of names."""
    return isinstance(thing, tuple) and all([is_name(name) for name in thing]) and is_ascending(thing)
