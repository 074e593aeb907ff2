"""Caches: lines that are present, requested and leaving, and the messages that reach a cache."""

from litmuscore.configs import line_of
from litmuscore.tuples import with_item


def row_of(rows, line):
    """The row of a line among rows that begin with their lines, or None."""
    for row in rows:
        if row[0] == line:
            return row
    return None


def without_row(rows, line):
    """The rows without that of the line."""
    return tuple([row for row in rows if row[0] != line])


def with_row(rows, changed):
    """The rows with the changed row in the place of that of its line."""
    return tuple([changed if row[0] == changed[0] else row for row in rows])


def read_word(config, cache, address):
    """The word at the address, or None if the core cannot read it."""
    row = row_of(cache[0], line_of(config, address))
    place = address % config.line_words
    if row is None or place >= len(row[2]):
        return None
    return row[2][place]


def can_write(config, cache, address):
    """True if the core can write the address."""
    if read_word(config, cache, address) is None:
        return False
    return row_of(cache[0], line_of(config, address))[1] != "shared"


def write_word(config, cache, address, word):
    """The cache after the word was written at the address, or None if the core cannot write it."""
    if not can_write(config, cache, address):
        return None
    lines, requested, leaving = cache
    line, _, words = row_of(lines, line_of(config, address))
    row = (line, "modified", with_item(words, address % config.line_words, word))
    return (with_row(lines, row), requested, leaving)


def occupied_ways(config, cache, number):
    """How many ways of the set with this number are occupied."""
    lines, requested, _ = cache
    missing = [row for row in requested if row_of(lines, row[0]) is None]
    return len([row for row in [*lines, *missing] if row[0] % config.sets == number])


def may_request(config, cache, line, exclusive):
    """True if the core may request the line."""
    lines, requested, leaving = cache
    if row_of(requested, line) is not None or row_of(leaving, line) is not None:
        return False
    if len(requested) >= config.requests:
        return False
    row = row_of(lines, line)
    if row is None:
        return occupied_ways(config, cache, line % config.sets) < config.ways
    return row[1] == "shared" and exclusive


def request_line(config, cache, core, line, exclusive):
    """The cache after the core has requested the line, and the messages that are sent; None if it may not."""
    if not may_request(config, cache, line, exclusive):
        return None
    lines, requested, leaving = cache
    name = "get modified" if exclusive else "get shared"
    return ((lines, requested + ((line, exclusive),), leaving), ((name, core, line),))


def give_up_line(cache, core, line):
    """The cache after the core has given up the line, and the messages that are sent; None if it may not."""
    lines, requested, leaving = cache
    row = row_of(lines, line)
    if row is None or row_of(requested, line) is not None:
        return None
    _, state, words = row
    left = without_row(lines, line)
    if state == "shared":
        return ((left, requested, leaving), ())
    dirty = state == "modified"
    return ((left, requested, leaving + ((line, words, dirty),)), (("give up", core, line, words, dirty),))


def receive_invalidate(cache, message):
    """The cache after an invalidation, and the answer."""
    lines, requested, leaving = cache
    _, core, line = message
    return ((without_row(lines, line), requested, leaving), (("invalidated", core, line),))


def receive_recall(cache, message):
    """The cache after its line was recalled, and the answer."""
    lines, requested, leaving = cache
    _, core, line, keep = message
    row = row_of(lines, line)
    if row is None:
        _, words, dirty = row_of(leaving, line)
        leaving = with_row(leaving, (line, None, dirty))
    else:
        _, state, words = row
        dirty = state == "modified"
        lines = with_row(lines, (line, "shared", words)) if keep else without_row(lines, line)
    return ((lines, requested, leaving), (("returned", core, line, words, dirty),))


def receive_grant(cache, message):
    """The cache after a line was granted, and the answer."""
    lines, requested, leaving = cache
    _, core, line, state, words = message
    lines = without_row(lines, line) + ((line, state, words),)
    return ((lines, without_row(requested, line), leaving), (("received", core, line),))


def receive_confirm(cache, message):
    """The cache after the home has confirmed that a line was given up; there is no answer."""
    lines, requested, leaving = cache
    return ((lines, requested, without_row(leaving, message[2])), ())


RECEIVING = {
    "invalidate": receive_invalidate,
    "recall": receive_recall,
    "grant": receive_grant,
    "confirm": receive_confirm,
}


def cache_receives(cache, message):
    """The cache after the message was received, and the messages that are sent."""
    receive = RECEIVING[message[0]]
    return receive(cache, message)
