"""Configurations and lines: [140], [141]."""

import unittest

from litmuscore.caches import can_write, read_word, request_line, write_word
from litmuscore.configs import Config
from litmuscore.network import coherent_word, next_system, start_system
from tests.helpers import ORDERS, Case

DEFAULTS = {"reorder_buffer": 4, "store_buffer": 2, "line_words": 1, "sets": 1, "ways": 4, "requests": 1,
            "exclusive_state": True}


class ConfigTest(unittest.TestCase):
    def test_defaults(self):
        for order in ORDERS:
            self.assertEqual(vars(Config(order)), {"order": order, **DEFAULTS})
            self.assertIs(Config(order).exclusive_state, True)

    def test_given_attributes(self):
        given = {"reorder_buffer": 9, "store_buffer": 8, "line_words": 7, "sets": 6, "ways": 5, "requests": 3,
                 "exclusive_state": False}
        self.assertEqual(vars(Config("pso", **given)), {"order": "pso", **given})
        for name, value in given.items():
            self.assertEqual(vars(Config("sc", **{name: value})), {"order": "sc", **DEFAULTS, name: value})
        self.assertIs(Config("sc", exclusive_state=False).exclusive_state, False)
        self.assertEqual(Config(order="wmm").order, "wmm")

    def test_sizes_at_and_beyond_the_bounds(self):
        for size in (1, 16, 17, 1000, 1001):
            config = Config("tso", reorder_buffer=size, store_buffer=size, line_words=size, sets=size, ways=size,
                            requests=size)
            self.assertEqual({config.reorder_buffer, config.store_buffer, config.line_words, config.sets, config.ways,
                              config.requests}, {size})

    def test_only_the_order_is_given_by_position(self):
        with self.assertRaises(TypeError):
            Config("tso", 4)
        with self.assertRaises(TypeError):
            Config()

    def test_the_initializer_stands_in_the_class(self):
        self.assertIn("__init__", vars(Config))
        self.assertEqual(Config.__module__, "litmuscore.configs")


class LinesTest(Case):
    def test_the_line_of_an_address(self):
        # Each line holds the words of its addresses, and so can be read and written at these alone.
        for line_words in (1, 2, 3, 16):
            config = Config("tso", line_words=line_words)
            for line in range(4):
                words = tuple(range(100, 100 + line_words))
                cache = (((line, "exclusive", words),), (), ())
                for address in range(70):
                    inside = line * line_words <= address < (line + 1) * line_words
                    word = 100 + address - line * line_words if inside else None
                    self.expect(word, read_word, config, cache, address)
                    self.expect(inside, can_write, config, cache, address)

    def test_the_last_line_may_have_fewer_words(self):
        memory = (1, 2, 3, 4, 5)
        program = ((), (0,), memory)
        for line_words, lines in ((1, 5), (2, 3), (3, 2), (4, 2), (5, 1), (6, 1), (16, 1)):
            config = Config("tso", line_words=line_words)
            system = self.call(start_system, program, config)
            self.assertEqual(len(system[1]), lines)
            for address in range(5):
                self.expect(memory[address], coherent_word, config, system, address)
            last = lines - 1
            system = next_system(config, next_system(config, system, ("request", 0, last, True)), ("deliver", 0))
            words = memory[last * line_words:]
            self.assertEqual(system[3], (("grant", 0, last, "modified", words),))
            system = next_system(config, system, ("deliver", 0))
            self.assertEqual(system[0][0][0], ((last, "modified", words),))
            self.expect(5, read_word, config, system[0][0], 4)
            cache = self.call(write_word, config, system[0][0], 4, 9)
            self.assertEqual(cache[0], ((last, "modified", words[:-1] + (9,)),))

    def test_words_that_the_last_line_has_not(self):
        config = Config("tso", line_words=4)
        cache = (((1, "modified", (5,)),), (), ())
        for address in (5, 6, 7, 8):
            self.expect(None, read_word, config, cache, address)
            self.expect(False, can_write, config, cache, address)
            self.expect(None, write_word, config, cache, address, 1)

    def test_the_set_of_a_line(self):
        # A line that is present leaves no way for a line of its own set.
        for sets in (1, 2, 3, 5):
            config = Config("tso", sets=sets, ways=1)
            for present in range(6):
                cache = (((present, "shared", (0,)),), (), ())
                for line in range(6):
                    if line != present:
                        possible = self.call(request_line, config, cache, 0, line, False) is not None
                        self.assertEqual(possible, line % sets != present % sets)
