"""Store buffers."""

from litmuscore.tuples import without_item


def waiting(buffer):
    """How many stores wait in the buffer."""
    return len([entry for entry in buffer if entry[0] == "store"])


def newest_word(buffer, address):
    """The word of the last store to the address in the buffer, or None."""
    for entry in reversed(buffer):
        if entry[0] == "store" and entry[1] == address:
            return entry[2]
    return None


def with_fence(buffer):
    """The buffer after a fence was put into it."""
    if waiting(buffer) == 0 or buffer[-1][0] == "fence":
        return buffer
    return buffer + (("fence",),)


def may_leave(order, buffer, index):
    """True if the entry with this index is a store that may leave the buffer under the order."""
    if index >= len(buffer) or buffer[index][0] != "store":
        return False
    if order in ("sc", "tso"):
        return index == 0
    for entry in buffer[:index]:
        if entry[0] == "fence" or entry[1] == buffer[index][1]:
            return False
    return True


def without(buffer, index):
    """The buffer after the store with this index has left."""
    left = without_item(buffer, index)
    fences = 0
    while fences < len(left) and left[fences][0] == "fence":
        fences += 1
    return left[fences:]
