"""What whole numbers and rows of them are."""


def is_number(thing):
    """Tell whether thing is a whole number of any size."""
    # A truth counts as an int in Python, but stands for no number here.
    return isinstance(thing, int) and not isinstance(thing, bool)


def is_whole(thing, least, most):
    """Tell whether thing is a whole number from least to most."""
    return is_number(thing) and least <= thing <= most


def is_row(thing):
    """Tell whether thing is a list or a tuple."""
    return isinstance(thing, (list, tuple))


def is_whole_row(thing, shortest, longest, least, most):
    """Tell whether thing is a row of shortest to longest whole numbers from least to most."""
    if not is_row(thing) or not shortest <= len(thing) <= longest:
        return False
    return all([is_whole(entry, least, most) for entry in thing])


def is_rising_row(thing, least, most):
    """Tell whether thing is a row of whole numbers from least to most, each greater than the one before."""
    if not is_whole_row(thing, 0, most - least + 1, least, most):
        return False
    return all([thing[k - 1] < thing[k] for k in range(1, len(thing))])
