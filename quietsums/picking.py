"""All ways to pick some of a few things; groups of hands in their order."""


def picked(items, many):
    """Return the list of all tuples of so many of the items, in the sequence of the items."""
    if many == 0:
        return [()]
    return [(items[at],) + rest for at in range(len(items)) for rest in picked(items[at + 1:], many - 1)]


def all_groups(hands):
    """Return the list of all groups of some hands, as sorted tuples, in the order of groups."""
    return [group for size in range(len(hands) + 1) for group in picked(sorted(hands), size)]


def is_part(items, greater):
    """Tell whether all of the items are among the greater ones."""
    return all([item in greater for item in items])
