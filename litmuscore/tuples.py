"""Tuples with one element changed."""


def with_item(parts, index, item):
    """The tuple with the item in the place of the one with this index."""
    return parts[:index] + (item,) + parts[index + 1:]


def without_item(parts, index):
    """The tuple without the item with this index."""
    return parts[:index] + parts[index + 1:]
