"""What several tests need."""

import unittest

ORDERS = ("sc", "tso", "pso", "wmm")
ZEROS = (0, 0, 0, 0, 0, 0, 0, 0)
PLAIN = (0, False)

LEFT = (("addi", 1, 0, 1), ("store", 1, 0, 0), ("load", 2, 0, 1), ("halt",))
RIGHT = (("addi", 1, 0, 1), ("store", 1, 0, 1), ("load", 2, 0, 0), ("halt",))
STORE_BUFFERING = (LEFT + RIGHT, (0, 4), (0, 0))


def registers(**words):
    """Eight registers: registers(r3=7) has 7 in register 3 and 0 in all others."""
    return tuple(words.get(f"r{number}", 0) for number in range(8))


def together(*cores, memory):
    """The program whose cores execute these pieces of code, which have no branches and no jumps."""
    code, entries = (), ()
    for piece in cores:
        entries += (len(code),)
        code += tuple(piece) + (("halt",),)
    return (code, entries, tuple(memory))


def is_plain(value):
    """True if the value consists of tuples, integers, strings, True, False and None alone."""
    if isinstance(value, tuple):
        return all(is_plain(part) for part in value)
    return value is None or type(value) in (int, str, bool)


class Case(unittest.TestCase):
    """A test case that looks at what is promised of every call."""

    def call(self, function, *arguments):
        """The result of the call; it is plain, comes again, and the arguments stay as they are."""
        before = repr(arguments)
        result = function(*arguments)
        self.assertTrue(is_plain(result), result)
        self.assertEqual(repr(function(*arguments)), repr(result))
        self.assertEqual(repr(arguments), before)
        return result

    def expect(self, wanted, function, *arguments):
        """The call returns the wanted value, in which True and False are not integers."""
        self.assertEqual(repr(self.call(function, *arguments)), repr(wanted))
