"""Configurations, which give a machine its memory order and its sizes, and the lines of memory."""


class Config:
    """A memory order and the sizes of a machine; the attributes are never changed."""

    def __init__(self, order, *, reorder_buffer=4, store_buffer=2, line_words=1, sets=1, ways=4, requests=1,
                 exclusive_state=True):
        self.order = order
        self.reorder_buffer = reorder_buffer
        self.store_buffer = store_buffer
        self.line_words = line_words
        self.sets = sets
        self.ways = ways
        self.requests = requests
        self.exclusive_state = exclusive_state


def line_of(config, address):
    """The line of an address."""
    return address // config.line_words


def line_count(config, memory):
    """How many lines a memory of these words has; the last one may have fewer words."""
    return (len(memory) + config.line_words - 1) // config.line_words


def words_of_line(config, memory, line):
    """The words of a line."""
    start = line * config.line_words
    return memory[start:start + config.line_words]


def with_line_words(config, memory, line, words):
    """The memory after the words of a line were replaced."""
    start = line * config.line_words
    return memory[:start] + words + memory[start + config.line_words:]
