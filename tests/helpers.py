"""What several tests need."""

import unittest

from litmuscore.configs import Config
from litmuscore.errors import LitmusError
from litmuscore.history import after_move, first_situation

ORDERS = ("sc", "tso", "pso", "wmm")
ZEROS = (0, 0, 0, 0, 0, 0, 0, 0)
PLAIN = (0, False)

LEFT = (("addi", 1, 0, 1), ("store", 1, 0, 0), ("load", 2, 0, 1), ("halt",))
RIGHT = (("addi", 1, 0, 1), ("store", 1, 0, 1), ("load", 2, 0, 0), ("halt",))
STORE_BUFFERING = (LEFT + RIGHT, (0, 4), (0, 0))


def registers(**words):
    """Eight registers: registers(r3=7) has 7 in register 3 and 0 in all others."""
    return tuple(words.get(f"r{number}", 0) for number in range(8))


def together(*cores, memory):
    """The program whose cores execute these pieces of code, which have no branches and no jumps."""
    code, entries = (), ()
    for piece in cores:
        entries += (len(code),)
        code += tuple(piece) + (("halt",),)
    return (code, entries, tuple(memory))


def is_plain(value):
    """True if the value consists of tuples, integers, strings, True, False, None and configurations alone."""
    if isinstance(value, tuple):
        return all(is_plain(part) for part in value)
    return value is None or type(value) in (int, str, bool, Config)


def shown(value):
    """What can be seen of a value; a configuration shows its attributes."""
    if isinstance(value, Config):
        return repr(vars(value))
    if isinstance(value, (tuple, list)):
        return [shown(part) for part in value]
    return repr(value)


def stepped(core, choice=PLAIN, time=0):
    return ("step", core, choice, time)


def read(core, word, time=0):
    return ("step", core, (word, False), time)


def effect(core, index=0):
    return ("effect", core, index)


class Case(unittest.TestCase):
    """A test case that looks at what is promised of every call."""

    def call(self, function, *arguments, **more):
        """The result of the call; it is plain, comes again, and the arguments stay as they are."""
        before = shown(arguments)
        result = function(*arguments, **more)
        self.assertTrue(is_plain(result), result)
        self.assertEqual(shown(function(*arguments, **more)), shown(result))
        self.assertEqual(shown(arguments), before)
        return result

    def expect(self, wanted, function, *arguments, **more):
        """The call returns the wanted value, in which True and False are not integers."""
        self.assertEqual(repr(self.call(function, *arguments, **more)), repr(wanted))

    def refuse(self, error, attributes, function, *arguments, **more):
        """The call raises the error, of no other class of the package, with these attributes."""
        before = shown(arguments)
        for _ in range(2):
            with self.assertRaises(error) as caught:
                function(*arguments, **more)
            self.assertEqual(type(caught.exception).__mro__[:3], (error, LitmusError, ValueError))
            self.assertEqual(repr(vars(caught.exception)), repr(attributes))
            self.assertEqual(shown(arguments), before)


class Machine(Case):
    """A test case with a situation of the history machine that moves change."""

    def begin(self, program, order):
        self.program, self.order = program, order
        self.now = first_situation(program)

    def after(self, move):
        return self.call(after_move, self.program, self.order, self.now, move)

    def go(self, *moves):
        for move in moves:
            self.now = self.after(move)
            self.assertIsNotNone(self.now, move)

    def bars(self, *moves):
        for move in moves:
            self.assertIsNone(self.after(move), move)

    def history(self):
        return self.now[0]

    def view(self, core):
        return self.now[1][core]

    def times(self, core):
        """floor, top, top_store, seen and link_time of a core."""
        return self.now[1][core][2:]
