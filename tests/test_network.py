"""The memory system: [180] to [186]."""

import random

from litmuscore.caches import can_write, read_word
from litmuscore.configs import Config
from litmuscore.network import coherent_word, deliverable, next_system, start_system, work, written
from tests.helpers import Case

EMPTY = ((), (), ())
IDLE = (None, (), None)
PAIRS = Config("tso", line_words=2, ways=2, requests=2)
PLAIN = Config("tso")
TWO = ((("halt",),), (0, 0), (4, 5, 6))
THREE = ((("halt",),), (0, 0, 0), (4, 5, 6))


class System(Case):
    """A test case with a memory system that actions change."""

    def begin(self, program, config):
        self.config, self.system = config, start_system(program, config)

    def after(self, action):
        return self.call(next_system, self.config, self.system, action)

    def go(self, *actions):
        for action in actions:
            after = self.after(action)
            self.assertIsNotNone(after, action)
            if action[0] == "deliver":
                self.assertLess(work(after), work(self.system))
            self.system = after

    def bars(self, *actions):
        for action in actions:
            self.assertIsNone(self.after(action), action)

    def settle(self):
        while deliverable(self.system):
            self.go(("deliver", deliverable(self.system)[0]))
        self.assertEqual(self.system[3], ())

    def obtain(self, core, line, exclusive):
        self.go(("request", core, line, exclusive))
        self.settle()

    def write(self, core, address, word):
        self.system = self.call(written, self.config, self.system, core, address, word)
        self.assertIsNotNone(self.system)

    def coheres(self, *words):
        for address, word in enumerate(words):
            self.expect(word, coherent_word, self.config, self.system, address)


class StartTest(System):
    def test_the_start(self):
        for line_words, lines in ((1, 3), (2, 2), (3, 1), (4, 1), (16, 1)):
            config = Config("tso", line_words=line_words)
            for cores in (1, 2, 4):
                program = ((), (0,) * cores, (4, 5, 6))
                self.expect(((EMPTY,) * cores, (IDLE,) * lines, (4, 5, 6), ()), start_system, program, config)
                self.begin(program, config)
                self.coheres(4, 5, 6)
                self.expect(0, work, self.system)
                self.expect((), deliverable, self.system)
                self.bars(("deliver", 0), ("evict", 0, 0), ("evict", 0, 2))

    def test_one_word(self):
        self.expect(((EMPTY,), (IDLE,), (9,), ()), start_system, ((), (3,), (9,)), PAIRS)


class RequestTest(System):
    def test_requests(self):
        for config in (PLAIN, PAIRS):
            for exclusive, name in ((False, "get shared"), (True, "get modified")):
                self.begin(TWO, config)
                before = self.system
                self.go(("request", 1, 1, exclusive))
                self.assertEqual(self.system, ((EMPTY, ((), ((1, exclusive),), ())), *before[1:3], ((name, 1, 1),)))

    def test_requests_that_are_not_possible(self):
        self.begin(TWO, PLAIN)
        self.go(("request", 0, 0, False))
        self.bars(("request", 0, 0, False), ("request", 0, 0, True), ("request", 0, 1, False))
        self.go(("request", 1, 0, False))

    def test_cores_and_lines_that_do_not_exist(self):
        self.begin(TWO, PLAIN)
        for exclusive in (False, True):
            self.bars(("request", 2, 0, exclusive), ("request", 0, 3, exclusive), ("request", 1000, 1000, exclusive))
        self.begin(TWO, PAIRS)
        self.bars(("request", 0, 2, False), ("request", 2, 1, False))
        self.go(("request", 1, 1, False))


class EvictTest(System):
    def test_giving_up(self):
        for config in (PLAIN, PAIRS):
            for exclusive, dirty in ((False, False), (True, True)):
                self.begin(TWO, config)
                self.obtain(1, 0, exclusive)
                words = self.system[2][:config.line_words]
                homes = self.system[1]
                self.go(("evict", 1, 0))
                self.assertEqual(self.system, ((EMPTY, ((), (), ((0, words, dirty),))), homes, (4, 5, 6),
                                               (("give up", 1, 0, words, dirty),)))
                self.settle()
                self.assertEqual(self.system, start_system(TWO, config))

    def test_a_shared_copy(self):
        self.begin(TWO, PLAIN)
        self.obtain(0, 0, False)
        self.obtain(1, 0, False)
        homes = self.system[1]
        self.go(("evict", 1, 0))
        self.assertEqual(self.system[0][1], EMPTY)
        self.assertEqual((self.system[1], self.system[3]), (homes, ()))

    def test_what_does_not_exist(self):
        self.begin(TWO, PLAIN)
        self.obtain(1, 0, True)
        self.bars(("evict", 0, 0), ("evict", 1, 1), ("evict", 1, 3), ("evict", 2, 0), ("evict", 1000, 1000))
        self.go(("evict", 1, 0))
        self.bars(("evict", 1, 0))


class DeliverTest(System):
    def test_indices_that_do_not_exist(self):
        self.begin(TWO, PLAIN)
        self.bars(("deliver", 0), ("deliver", 1000))
        self.go(("request", 0, 0, True))
        self.bars(("deliver", 1), ("deliver", 1000))
        self.go(("deliver", 0))

    def test_a_message_is_removed_before_the_answer_is_sent(self):
        self.begin(THREE, PAIRS)
        self.go(("request", 0, 0, True), ("request", 1, 1, False), ("request", 2, 1, False))
        self.assertEqual(self.system[3], (("get modified", 0, 0), ("get shared", 1, 1), ("get shared", 2, 1)))
        self.go(("deliver", 1))
        self.assertEqual(self.system[3], (("get modified", 0, 0), ("get shared", 2, 1),
                                          ("grant", 1, 1, "exclusive", (6,))))
        self.go(("deliver", 2))
        self.assertEqual(self.system[3], (("get modified", 0, 0), ("get shared", 2, 1), ("received", 1, 1)))
        self.assertEqual(self.system[0][1], (((1, "exclusive", (6,)),), (), ()))

    def test_messages_that_cannot_be_delivered_yet(self):
        self.begin(THREE, PLAIN)
        self.go(("request", 0, 0, True), ("request", 1, 0, False), ("request", 2, 1, False))
        self.expect((0, 1, 2), deliverable, self.system)
        self.go(("deliver", 0))
        # The home of the line 0 is busy, the one of the line 1 is not.
        self.assertEqual([message[0] for message in self.system[3]], ["get shared", "get shared", "grant"])
        self.expect((1, 2), deliverable, self.system)
        self.bars(("deliver", 0), ("deliver", 3))
        self.go(("deliver", 2))
        self.expect((1, 2), deliverable, self.system)
        self.go(("deliver", 2))
        self.expect((0, 1), deliverable, self.system)
        self.go(("deliver", 0))

    def test_a_line_that_is_given_up_while_the_home_is_busy(self):
        self.begin(TWO, PLAIN)
        self.obtain(0, 0, True)
        self.write(0, 0, 9)
        self.go(("request", 1, 0, False), ("deliver", 0), ("evict", 0, 0))
        self.assertEqual(self.system[3], (("recall", 0, 0, True), ("give up", 0, 0, (9,), True)))
        self.expect((0,), deliverable, self.system)
        self.bars(("deliver", 1))
        self.go(("deliver", 0))
        self.assertEqual(self.system[0][0], ((), (), ((0, None, True),)))
        self.assertEqual(self.system[3], (("give up", 0, 0, (9,), True), ("returned", 0, 0, (9,), True)))
        self.coheres(9, 5, 6)
        self.go(("deliver", 1))
        self.assertEqual(self.system[2], (9, 5, 6))
        self.settle()
        # The home no longer takes core 0 for the owner; what it gave up changes nothing.
        self.assertEqual(self.system, ((EMPTY, (((0, "shared", (9,)),), (), ())), ((None, (0, 1), None), IDLE, IDLE),
                                       (9, 5, 6), ()))

    def test_the_order_of_the_messages_of_one_input(self):
        self.begin(((), (0, 0, 0, 0), (4,)), PLAIN)
        for core in (3, 0, 2):
            self.obtain(core, 0, False)
        # Core 3 was the owner; it became the first sharer when core 0 read the line.
        self.assertEqual(self.system[1], ((None, (3, 0, 2), None),))
        self.go(("request", 1, 0, True), ("deliver", 0))
        self.assertEqual(self.system[3], (("invalidate", 3, 0), ("invalidate", 0, 0), ("invalidate", 2, 0)))
        self.go(("deliver", 1), ("deliver", 0))
        self.assertEqual(self.system[3], (("invalidate", 2, 0), ("invalidated", 0, 0), ("invalidated", 3, 0)))
        self.settle()
        self.assertEqual(self.system, ((EMPTY, (((0, "modified", (4,)),), (), ()), EMPTY, EMPTY),
                                       ((1, (), None),), (4,), ()))

    def test_words_of_the_last_line(self):
        self.begin(TWO, PAIRS)
        self.obtain(0, 1, True)
        self.write(0, 2, 9)
        self.obtain(1, 1, False)
        self.assertEqual((self.system[0][1], self.system[2]), ((((1, "shared", (9,)),), (), ()), (4, 5, 9)))
        self.go(("evict", 0, 1))
        self.obtain(0, 0, True)
        self.write(0, 0, 8)
        self.go(("evict", 0, 0))
        self.settle()
        self.assertEqual(self.system[2], (8, 5, 9))


class WrittenTest(System):
    def test_a_word_is_written(self):
        self.begin(TWO, PAIRS)
        self.obtain(1, 0, True)
        before = self.system
        for address, words in ((0, (9, 5)), (1, (4, 9))):
            caches = (EMPTY, (((0, "modified", words),), (), ()))
            self.expect((caches, *before[1:]), written, PAIRS, before, 1, address, 9)

    def test_an_exclusive_line_becomes_modified(self):
        self.begin(TWO, PLAIN)
        self.obtain(0, 2, False)
        self.assertEqual(self.system[0][0][0], ((2, "exclusive", (6,)),))
        self.write(0, 2, 7)
        self.assertEqual(self.system[0][0][0], ((2, "modified", (7,)),))
        self.assertEqual((self.system[2], self.system[3]), ((4, 5, 6), ()))

    def test_a_core_that_cannot_write(self):
        self.begin(TWO, PAIRS)
        self.obtain(0, 0, False)
        self.obtain(1, 0, False)
        for core in (0, 1):
            for address in (0, 1, 2):
                self.expect(None, written, PAIRS, self.system, core, address, 9)


class CoherentTest(System):
    def test_memory_and_shared_copies(self):
        self.begin(TWO, PAIRS)
        self.coheres(4, 5, 6)
        self.obtain(0, 0, False)
        self.obtain(1, 0, False)
        self.assertIsNone(self.system[1][0][0])
        self.coheres(4, 5, 6)

    def test_the_cache_of_the_owner(self):
        self.begin(TWO, PAIRS)
        self.obtain(1, 0, True)
        self.write(1, 1, 9)
        self.assertEqual(self.system[2], (4, 5, 6))
        self.coheres(4, 9, 6)
        # A shared copy of the owner, whose words are on their way to the home.
        self.go(("request", 0, 0, False), ("deliver", 0), ("deliver", 0))
        self.assertEqual(self.system[0][1][0], ((0, "shared", (4, 9)),))
        self.assertEqual((self.system[1][0][0], self.system[2]), (1, (4, 5, 6)))
        self.coheres(4, 9, 6)
        # Without this copy, they are those of the message.
        self.go(("evict", 1, 0))
        self.coheres(4, 9, 6)
        self.go(("deliver", 0))
        self.assertEqual((self.system[1][0][0], self.system[2]), (None, (4, 9, 6)))
        self.coheres(4, 9, 6)

    def test_leaving(self):
        self.begin(TWO, PLAIN)
        self.obtain(1, 0, True)
        self.write(1, 0, 9)
        self.go(("evict", 1, 0))
        self.assertEqual((self.system[1][0][0], self.system[0][1]), (1, ((), (), ((0, (9,), True),))))
        self.coheres(9, 5, 6)
        self.go(("deliver", 0))
        self.coheres(9, 5, 6)

    def test_a_grant_in_flight(self):
        self.begin(TWO, PLAIN)
        self.obtain(1, 0, True)
        self.write(1, 0, 9)
        self.go(("request", 0, 1, False), ("deliver", 0))
        self.assertEqual(self.system[3], (("grant", 0, 1, "exclusive", (5,)),))
        self.coheres(9, 5, 6)
        self.settle()
        self.go(("request", 0, 0, True), ("deliver", 0), ("deliver", 0))
        self.assertEqual((self.system[3], self.system[1][0][0]), ((("returned", 1, 0, (9,), True),), 1))
        self.coheres(9, 5, 6)
        self.go(("deliver", 0))
        self.assertEqual((self.system[3], self.system[1][0][0]), ((("grant", 0, 0, "modified", (9,)),), 0))
        self.coheres(9, 5, 6)
        self.go(("deliver", 0))
        self.coheres(9, 5, 6)

    def test_other_messages_in_flight_do_not_matter(self):
        self.begin(THREE, Config("tso", requests=3))
        for line in (0, 1):
            self.obtain(1, line, True)
            self.write(1, line, 8 + line)
        # Both lines are on their way back from core 1, and a third one is on its way to it.
        self.go(("request", 1, 2, True), ("deliver", 0), ("request", 0, 1, True), ("request", 2, 0, True))
        self.go(("deliver", 1), ("deliver", 1), ("deliver", 1), ("deliver", 1))
        self.assertEqual(self.system[3], (("grant", 1, 2, "modified", (6,)), ("returned", 1, 1, (9,), True),
                                          ("returned", 1, 0, (8,), True)))
        self.coheres(8, 9, 6)


class WorkTest(System):
    def test_each_kind_of_message(self):
        for cores in (1, 2, 3, 4):
            caches, words = (EMPTY,) * cores, (4, 5, 6)
            for message, wanted in (
                (("get shared", 0, 0), 2 * cores + 2), (("get modified", 0, 0), 2 * cores + 2),
                (("give up", 0, 0, (4,), True), 3), (("recall", 0, 0, True), 3), (("returned", 0, 0, (4,), False), 2),
                (("invalidate", 0, 0), 2), (("grant", 0, 0, "shared", (4,)), 2), (("invalidated", 0, 0), 1),
                (("received", 0, 0), 1), (("confirm", 0, 0), 1),
            ):
                self.expect(wanted, work, (caches, (IDLE,) * 3, words, (message,)))
                self.expect(3 * wanted, work, (caches, (IDLE,) * 3, words, (message,) * 3))

    def test_homes_that_serve(self):
        waits = (None, (), (0, True, (), True, None, False))
        granted = (0, (), (0, True, (), False, (4,), True))
        for homes, wanted in (((IDLE, IDLE), 0), ((waits, IDLE), 2), ((waits, waits), 4), ((granted, IDLE), 0),
                              ((granted, waits), 2)):
            self.expect(wanted, work, ((EMPTY,), homes, (4, 5), ()))
            self.expect(wanted + 4, work, ((EMPTY,), homes, (4, 5), (("recall", 0, 0, True), ("confirm", 0, 1))))


class StoryTest(System):
    def test_the_example(self):
        config = Config("tso", line_words=2)
        self.begin(((("halt",),), (0, 0), (4, 5)), config)
        self.go(("request", 1, 0, True), ("deliver", 0))
        self.assertEqual((self.system[1], self.system[3]), (((1, (), (1, True, (), False, (4, 5), True)),),
                                                            (("grant", 1, 0, "modified", (4, 5)),)))
        self.go(("deliver", 0))
        self.write(1, 0, 9)
        self.coheres(9, 5)
        self.assertEqual(self.system[2], (4, 5))


class WalkTest(System):
    def check(self, memory):
        """Every word that can be read is the coherent one; who can write a line is the only one to hold it."""
        caches = self.system[0]
        for address, word in enumerate(memory):
            self.assertEqual(coherent_word(self.config, self.system, address), word)
            readers = [core for core, cache in enumerate(caches) if read_word(self.config, cache, address) is not None]
            writers = [core for core, cache in enumerate(caches) if can_write(self.config, cache, address)]
            self.assertTrue(not writers or readers == writers, self.system)
            for core in readers:
                self.assertEqual(read_word(self.config, caches[core], address), word)

    def walk(self, program, config, draw):
        self.begin(program, config)
        memory = list(program[2])
        for _ in range(150):
            core, line = draw.randrange(len(program[1])), draw.randrange(len(self.system[1]))
            action = draw.choice((("request", core, line, draw.random() < 0.5), ("evict", core, line),
                                  ("deliver", draw.randrange(6)), ("deliver", draw.randrange(6))))
            after = next_system(config, self.system, action)
            if action[0] == "deliver":
                self.assertEqual(after is not None, action[1] in deliverable(self.system))
                self.assertTrue(after is None or work(after) < work(self.system))
            self.system = after or self.system
            address, word = draw.randrange(len(memory)), draw.randrange(100)
            after = written(config, self.system, core, address, word)
            if after is not None and draw.random() < 0.5:
                self.system, memory[address] = after, word
            self.check(memory)
        # Every message can be delivered in the end; then nobody waits for anything.
        self.settle()
        self.check(memory)
        self.assertTrue(all(home[2] is None for home in self.system[1]))
        self.assertTrue(all(cache[1] == () and cache[2] == () for cache in self.system[0]))
        self.expect(0, work, self.system)

    def test_random_walks(self):
        draw = random.Random(8)
        for _ in range(60):
            program = ((), (0,) * draw.randrange(1, 5), tuple(range(draw.randrange(1, 7))))
            self.walk(program, Config("tso", line_words=draw.randrange(1, 4), sets=draw.randrange(1, 3),
                                      ways=draw.randrange(1, 4), requests=draw.randrange(1, 4),
                                      exclusive_state=draw.random() < 0.5), draw)
