"""The plain kinds that everything handed in is made of."""


def is_whole(thing):
    """A truth is an int to Python, but no whole number here."""
    return isinstance(thing, int) and not isinstance(thing, bool)


def is_whole_from(thing, least):
    return is_whole(thing) and thing >= least


def is_whole_within(thing, least, most):
    return is_whole(thing) and least <= thing <= most


def is_letters(thing, fewest, most):
    """Tell whether a thing is a text of so many letters from a to z."""
    if not isinstance(thing, str) or not fewest <= len(thing) <= most:
        return False
    return all(["a" <= sign <= "z" for sign in thing])


def is_tuple(thing, fewest, most):
    """Tell whether a thing is a tuple of so many parts."""
    return isinstance(thing, tuple) and fewest <= len(thing) <= most


def is_rising(things):
    """Tell whether each thing is greater than the one ahead; all are of one kind."""
    return all([ahead < behind for ahead, behind in zip(things, things[1:])])


def is_rising_within(thing, least, most):
    """Tell whether a thing is a rising tuple of whole numbers from least to most, () too."""
    if not isinstance(thing, tuple) or not all([is_whole_within(part, least, most) for part in thing]):
        return False
    return is_rising(thing)


def is_each_once(things):
    """Tell whether no two are alike; all are numbers or tuples of numbers."""
    return len(set(things)) == len(things)
