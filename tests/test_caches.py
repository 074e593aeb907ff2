"""Caches: [142] to [147]."""

from litmuscore.caches import can_write, cache_receives, give_up_line, read_word, request_line, write_word
from litmuscore.configs import Config
from tests.helpers import Case

PLAIN = Config("tso")
PAIRS = Config("tso", line_words=2, ways=2, requests=2)
MANY = Config("sc", ways=9, requests=9)
STATES = ("shared", "exclusive", "modified")
# Lines in each state, a line that is requested, one that is present and requested, and lines that are leaving.
FULL = (((0, "shared", (1,)), (1, "exclusive", (2,)), (2, "modified", (3,)), (3, "shared", (4,))),
        ((3, True), (4, False), (5, True)), ((6, (7,), False), (7, (8,), True), (8, None, False)))


class WordsTest(Case):
    def test_reads_in_each_state(self):
        for state in STATES:
            cache = (((1, state, (5, 6)),), (), ())
            for address, word in ((0, None), (1, None), (2, 5), (3, 6), (4, None), (100, None)):
                self.expect(word, read_word, PAIRS, cache, address)

    def test_writes_in_each_state(self):
        for state in STATES:
            cache = (((7, "shared", (0, 0)), (1, state, (5, 6)), (0, "exclusive", (1, 2))), ((7, True),),
                     ((3, None, True),))
            possible = state != "shared"
            for address, words in ((2, (9, 6)), (3, (5, 9))):
                self.expect(possible, can_write, PAIRS, cache, address)
                after = ((cache[0][0], (1, "modified", words), cache[0][2]), cache[1], cache[2])
                self.expect(after if possible else None, write_word, PAIRS, cache, address, 9)
            for address in (4, 5, 6, 7, 14, 15, 1000):
                self.expect(False, can_write, PAIRS, cache, address)
                self.expect(None, write_word, PAIRS, cache, address, 9)

    def test_an_empty_cache(self):
        for config in (PLAIN, PAIRS):
            for address in range(4):
                self.expect(None, read_word, config, ((), (), ()), address)
                self.expect(False, can_write, config, ((), (), ()), address)
                self.expect(None, write_word, config, ((), (), ()), address, 1)

    def test_lines_that_are_requested_or_leaving_are_not_present(self):
        for address, word in ((0, 1), (1, 2), (2, 3), (3, 4), (4, None), (5, None), (6, None), (7, None), (8, None)):
            self.expect(word, read_word, PLAIN, FULL, address)
            self.expect(address in (1, 2), can_write, PLAIN, FULL, address)

    def test_the_same_word_is_written_again(self):
        cache = (((0, "exclusive", (5,)),), (), ())
        self.expect((((0, "modified", (5,)),), (), ()), write_word, PLAIN, cache, 0, 5)

    def test_words_at_the_bounds(self):
        cache = (((0, "modified", (0,)),), (), ())
        cache = self.call(write_word, PLAIN, cache, 0, 65535)
        self.expect(65535, read_word, PLAIN, cache, 0)
        self.expect(0, read_word, PLAIN, self.call(write_word, PLAIN, cache, 0, 0), 0)


class RequestTest(Case):
    def may(self, config, cache, line, exclusive):
        message = ("get modified" if exclusive else "get shared", 3, line)
        after = (cache[0], cache[1] + ((line, exclusive),), cache[2])
        self.expect((after, (message,)), request_line, config, cache, 3, line, exclusive)

    def may_not(self, config, cache, line, exclusive):
        self.expect(None, request_line, config, cache, 3, line, exclusive)

    def test_a_line_that_is_not_present(self):
        for exclusive in (False, True):
            self.may(PLAIN, ((), (), ()), 0, exclusive)
            self.may(PLAIN, ((), (), ()), 15, exclusive)
            self.may(MANY, FULL, 9, exclusive)

    def test_a_line_that_is_requested_or_leaving(self):
        for line in (3, 4, 5, 6, 7, 8):
            for exclusive in (False, True):
                self.may_not(MANY, FULL, line, exclusive)
        # Each of these is the only reason.
        for exclusive in (False, True):
            self.may_not(MANY, ((), ((4, True),), ()), 4, exclusive)
            self.may_not(MANY, ((), ((4, False),), ()), 4, exclusive)
            self.may_not(MANY, ((), (), ((4, (0,), False),)), 4, exclusive)
            self.may_not(MANY, ((), (), ((4, None, True),)), 4, exclusive)
            self.may_not(MANY, (((4, "shared", (0,)),), ((4, True),), ()), 4, exclusive)

    def test_as_many_requests_as_the_configuration_lets(self):
        for many in (1, 2, 3):
            config = Config("tso", ways=100, requests=many)
            for used in range(many + 2):
                cache = (((0, "shared", (5,)),), tuple((line, line == 9) for line in range(8, 8 + used)), ())
                for line, exclusive in ((1, False), (1, True), (0, True)):
                    (self.may if used < many else self.may_not)(config, cache, line, exclusive)

    def test_lines_that_are_leaving_do_not_count_as_requests(self):
        self.may(PLAIN, ((), (), ((1, (0,), True), (2, None, False))), 0, True)

    def test_a_line_that_is_present(self):
        for state in STATES:
            cache = (((0, state, (5,)),), (), ())
            self.may_not(PLAIN, cache, 0, False)
            (self.may if state == "shared" else self.may_not)(PLAIN, cache, 0, True)

    def test_a_shared_copy_needs_no_other_way(self):
        config = Config("tso", ways=1)
        cache = (((0, "shared", (5,)),), (), ())
        self.may(config, cache, 0, True)
        self.may_not(config, cache, 1, True)

    def test_ways_occupied_by_present_lines(self):
        for ways in (1, 2, 3):
            config = Config("tso", sets=2, ways=ways)
            for same in range(ways + 1):
                for other in (0, 3):
                    lines = [(2 * place + 2, STATES[place % 3], (0,)) for place in range(same)]
                    lines += [(2 * place + 1, STATES[place % 3], (0,)) for place in range(other)]
                    act = self.may if same < ways else self.may_not
                    act(config, (tuple(lines), (), ()), 0, False)
                    act(config, (tuple(lines), (), ()), 0, True)

    def test_ways_occupied_by_requested_lines(self):
        for ways in (1, 2, 3):
            config = Config("tso", sets=2, ways=ways, requests=9)
            for same in range(ways + 1):
                for other in (0, 3):
                    rows = [(2 * place + 2, place == 0) for place in range(same)]
                    rows += [(2 * place + 1, place == 0) for place in range(other)]
                    (self.may if same < ways else self.may_not)(config, ((), tuple(rows), ()), 0, False)

    def test_ways_occupied_by_both(self):
        config = Config("tso", sets=2, ways=3, requests=9)
        lines = ((2, "shared", (0,)), (4, "modified", (0,)))
        self.may(config, (lines, (), ()), 0, True)
        self.may(config, (lines, ((1, False), (3, True)), ()), 0, True)
        self.may_not(config, (lines, ((6, False),), ()), 0, True)
        # A line that is present and requested occupies one way.
        self.may(config, (lines, ((2, True),), ()), 0, True)
        self.may_not(config, (lines, ((2, True), (6, False)), ()), 0, True)

    def test_lines_that_are_leaving_occupy_no_way(self):
        config = Config("tso", ways=1)
        self.may(config, ((), (), ((1, (0,), True), (2, None, False))), 0, False)

    def test_an_invalidated_copy_that_is_requested_still_occupies_a_way(self):
        config = Config("tso", ways=1, requests=2)
        cache, _ = request_line(config, (((0, "shared", (5,)),), (), ()), 1, 0, True)
        cache, _ = cache_receives(cache, ("invalidate", 1, 0))
        self.assertEqual(cache, ((), ((0, True),), ()))
        self.may_not(config, cache, 1, True)

    def test_requests_are_in_the_order_in_which_they_were_made(self):
        cache = ((), (), ())
        for line, exclusive in ((5, True), (2, False), (9, True)):
            cache, _ = self.call(request_line, MANY, cache, 0, line, exclusive)
        self.assertEqual(cache, ((), ((5, True), (2, False), (9, True)), ()))


class GiveUpTest(Case):
    def test_each_state(self):
        before, behind = (9, "modified", (1, 2)), (8, "shared", (3, 4))
        leaving = ((7, None, True),)
        for state in STATES:
            cache = ((before, (5, state, (6, 7)), behind), ((1, True), (2, False)), leaving)
            if state == "shared":
                wanted = (((before, behind), cache[1], leaving), ())
            else:
                dirty = state == "modified"
                wanted = (((before, behind), cache[1], leaving + ((5, (6, 7), dirty),)),
                          (("give up", 2, 5, (6, 7), dirty),))
            self.expect(wanted, give_up_line, cache, 2, 5)

    def test_lines_that_are_not_present(self):
        for line in (4, 5, 6, 7, 8, 9, 1000):
            self.expect(None, give_up_line, FULL, 0, line)
        self.expect(None, give_up_line, ((), (), ()), 0, 0)

    def test_a_line_that_is_requested(self):
        self.expect(None, give_up_line, FULL, 0, 3)
        for state in STATES:
            self.expect(None, give_up_line, (((0, state, (5,)),), ((0, True),), ()), 0, 0)


class ReceiveTest(Case):
    first, last = (9, "modified", (1, 2)), (8, "shared", (3, 4))

    def among(self, *rows):
        return (self.first, *rows, self.last)

    def test_invalidate(self):
        requested, leaving = ((5, True), (2, False)), ((7, None, True),)
        answer = (("invalidated", 1, 5),)
        for rows in ((), ((5, "shared", (6, 7)),)):
            cache = (self.among(*rows), requested, leaving)
            self.expect(((self.among(), requested, leaving), answer), cache_receives, cache, ("invalidate", 1, 5))
        for state in STATES:
            self.expect((((), (), ()), (("invalidated", 0, 0),)), cache_receives, (((0, state, (1,)),), (), ()),
                        ("invalidate", 0, 0))
        cache = ((), (), ((5, (6, 7), True),))
        self.expect((cache, answer), cache_receives, cache, ("invalidate", 1, 5))

    def test_recall_of_a_line_that_is_present(self):
        for requested in ((), ((5, True),)):
            for state in STATES:
                cache = (self.among((5, state, (6, 7))), requested, ((7, (1, 1), True),))
                answer = (("returned", 1, 5, (6, 7), state == "modified"),)
                for keep in (True, False):
                    lines = self.among((5, "shared", (6, 7))) if keep else self.among()
                    self.expect(((lines, requested, ((7, (1, 1), True),)), answer), cache_receives, cache,
                                ("recall", 1, 5, keep))

    def test_recall_of_a_line_that_is_leaving(self):
        for dirty in (True, False):
            for keep in (True, False):
                cache = (self.among(), ((2, True),), ((4, (0, 0), True), (5, (6, 7), dirty), (3, None, False)))
                leaving = ((4, (0, 0), True), (5, None, dirty), (3, None, False))
                self.expect(((self.among(), ((2, True),), leaving), (("returned", 1, 5, (6, 7), dirty),)),
                            cache_receives, cache, ("recall", 1, 5, keep))

    def test_grant(self):
        leaving = ((7, None, True),)
        for state in STATES:
            for exclusive in (True, False):
                requested = ((4, False), (5, exclusive), (3, True))
                wanted = ((self.among((5, state, (8, 9))), ((4, False), (3, True)), leaving), (("received", 1, 5),))
                lines = wanted[0][0]
                wanted = (((lines[0], lines[2], lines[1]), *wanted[0][1:]), wanted[1])
                # The line comes last, also if an older copy of it was present.
                for rows in ((), ((5, "shared", (6, 7)),)):
                    self.expect(wanted, cache_receives, (self.among(*rows), requested, leaving),
                                ("grant", 1, 5, state, (8, 9)))

    def test_confirm(self):
        for words in ((6, 7), None):
            for dirty in (True, False):
                cache = (self.among(), ((2, True),), ((4, (0, 0), True), (5, words, dirty), (3, None, False)))
                wanted = ((self.among(), ((2, True),), ((4, (0, 0), True), (3, None, False))), ())
                self.expect(wanted, cache_receives, cache, ("confirm", 1, 5))

    def test_the_answers_name_the_core(self):
        for core in range(4):
            cache = (((0, "modified", (5,)),), (), ())
            self.assertEqual(self.call(cache_receives, cache, ("invalidate", core, 0))[1], (("invalidated", core, 0),))
            self.assertEqual(self.call(cache_receives, cache, ("recall", core, 0, True))[1],
                             (("returned", core, 0, (5,), True),))
            self.assertEqual(self.call(cache_receives, ((), ((0, True),), ()), ("grant", core, 0, "shared", (1,)))[1],
                             (("received", core, 0),))
            self.assertEqual(self.call(give_up_line, cache, core, 0)[1], (("give up", core, 0, (5,), True),))
            self.assertEqual(self.call(request_line, PLAIN, ((), (), ()), core, 0, True)[1],
                             (("get modified", core, 0),))

    def test_the_example(self):
        cache, messages = self.call(request_line, PAIRS, ((), (), ()), 0, 5, False)
        self.assertEqual((cache, messages), (((), ((5, False),), ()), (("get shared", 0, 5),)))
        cache, messages = self.call(cache_receives, cache, ("grant", 0, 5, "exclusive", (7, 8)))
        self.assertEqual(messages, (("received", 0, 5),))
        cache = self.call(write_word, PAIRS, cache, 11, 9)
        self.assertEqual(cache, (((5, "modified", (7, 9)),), (), ()))
        cache, messages = self.call(give_up_line, cache, 0, 5)
        self.assertEqual(messages, (("give up", 0, 5, (7, 9), True),))
        self.expect((((), (), ((5, None, True),)), (("returned", 0, 5, (7, 9), True),)),
                    cache_receives, cache, ("recall", 0, 5, True))
