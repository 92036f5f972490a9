"""Tuples of which each element has to be of one kind, and which have no more than so many."""


def first_wrong(members, is_right, most):
    """The index of the first element that is wrong by itself or is one too many; None if there is none."""
    for index, element in enumerate(members):
        if index == most or not is_right(element):
            return index
    return None
