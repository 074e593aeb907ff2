"""Directories: [160] to [167]."""

from litmuscore.configs import Config
from litmuscore.directory import can_receive, home_receives
from tests.helpers import Case

PLAIN = Config("tso", line_words=2)
CAREFUL = Config("tso", line_words=2, exclusive_state=False)
CONFIGS = (PLAIN, CAREFUL)
WORDS = (4, 5)
IDLE = (None, (), None)
REQUESTS = (("get shared", 0, 3), ("get modified", 0, 3))
ANSWERS = (("invalidated", 0, 3), ("returned", 0, 3, (1, 2), True), ("received", 0, 3))
GIVE_UP = ("give up", 0, 3, (1, 2), True)


def grant(core, state, words=WORDS):
    return ("grant", core, 3, state, words)


class Home(Case):
    def receives(self, home, message, *wanted, words=WORDS, configs=CONFIGS):
        for config in configs:
            self.expect(tuple(wanted), home_receives, config, home, words, message)


class CanReceiveTest(Case):
    def test_while_no_request_is_served(self):
        for home in (IDLE, (1, (), None), (0, (), None), (None, (2, 0), None)):
            for message in (*REQUESTS, *ANSWERS, GIVE_UP):
                self.expect(True, can_receive, home, message)

    def test_while_a_request_is_served(self):
        for serving in ((1, True, (), True, None, False), (1, False, (), False, (4, 5), True),
                        (1, True, (2,), False, (4, 5), False), (0, False, (), True, None, False)):
            for owner, sharers in ((None, ()), (1, ()), (0, ()), (None, (0, 2))):
                for message in (*REQUESTS, GIVE_UP, ("give up", 0, 3, (1, 2), False)):
                    self.expect(False, can_receive, (owner, sharers, serving), message)
                for message in ANSWERS:
                    self.expect(True, can_receive, (owner, sharers, serving), message)


class RequestTest(Home):
    def test_the_line_has_an_owner(self):
        for name, exclusive in (("get shared", False), ("get modified", True)):
            for owner in (1, 2):
                self.receives((owner, (), None), (name, 0, 3), (owner, (), (0, exclusive, (), True, None, False)),
                              WORDS,
                              (("recall", owner, 3, not exclusive),))

    def test_an_owner_beside_sharers(self):
        # Nobody but the owner is asked, whatever the sharers are.
        self.receives((1, (2, 0), None), ("get modified", 0, 3), (1, (2, 0), (0, True, (), True, None, False)), WORDS,
                      (("recall", 1, 3, False),))

    def test_for_reading_with_neither_owner_nor_sharers(self):
        self.receives(IDLE, ("get shared", 2, 3), (2, (), (2, False, (), False, WORDS, True)), WORDS,
                      (grant(2, "exclusive"),), configs=(PLAIN,))
        self.receives(IDLE, ("get shared", 2, 3), (None, (2,), (2, False, (), False, WORDS, True)), WORDS,
                      (grant(2, "shared"),), configs=(CAREFUL,))

    def test_for_reading_with_sharers(self):
        for sharers, after in (((1,), (1, 2)), ((3, 0), (3, 0, 2)), ((2,), (2,)), ((3, 2, 0), (3, 2, 0))):
            self.receives((None, sharers, None), ("get shared", 2, 3), (None, after, (2, False, (), False, WORDS,
                                                                                      True)),
                          WORDS, (grant(2, "shared"),))

    def test_for_writing_with_nobody_to_wait_for(self):
        for sharers in ((), (2,)):
            self.receives((None, sharers, None), ("get modified", 2, 3), (2, (), (2, True, (), False, WORDS, True)),
                          WORDS, (grant(2, "modified"),))

    def test_for_writing_with_sharers(self):
        for sharers, others in (((1,), (1,)), ((3, 1), (3, 1)), ((3, 2, 1), (3, 1)), ((2, 0), (0,))):
            self.receives((None, sharers, None), ("get modified", 2, 3),
                          (None, sharers, (2, True, others, False, WORDS, False)), WORDS,
                          tuple(("invalidate", other, 3) for other in others))


class InvalidatedTest(Home):
    def test_others_are_waited_for(self):
        home = (None, (3, 2, 1), (2, True, (3, 1), False, WORDS, False))
        self.receives(home, ("invalidated", 3, 3), (None, (2, 1), (2, True, (1,), False, WORDS, False)), WORDS, ())
        self.receives(home, ("invalidated", 1, 3), (None, (3, 2), (2, True, (3,), False, WORDS, False)), WORDS, ())

    def test_the_last_one(self):
        for sharers in ((1,), (1, 2), (2, 1)):
            self.receives((None, sharers, (2, True, (1,), False, WORDS, False)), ("invalidated", 1, 3),
                          (2, (), (2, True, (), False, WORDS, True)), WORDS, (grant(2, "modified"),))

    def test_the_words_of_the_grant_are_those_of_the_request(self):
        self.receives((None, (1,), (2, True, (1,), False, (8, 9), False)), ("invalidated", 1, 3),
                      (2, (), (2, True, (), False, (8, 9), True)), WORDS, (grant(2, "modified", (8, 9)),))

    def test_the_other_conditions_of_a_grant(self):
        # The rule of grants also asks whether the line was granted, whether it was recalled, and for its words.
        for serving in ((2, True, (1,), False, WORDS, True), (2, True, (1,), True, WORDS, False),
                        (2, True, (1,), False, None, False)):
            core, exclusive, _, recalled, words, granted = serving
            self.receives((None, (1,), serving), ("invalidated", 1, 3),
                          (None, (), (core, exclusive, (), recalled, words, granted)), WORDS, ())


class ReturnedTest(Home):
    def test_a_request_for_reading(self):
        for dirty in (True, False):
            memory = (6, 7) if dirty else WORDS
            self.receives((1, (), (0, False, (), True, None, False)), ("returned", 1, 3, (6, 7), dirty),
                          (None, (1, 0), (0, False, (), False, (6, 7), True)), memory, (grant(0, "shared", (6, 7)),))

    def test_a_request_for_writing(self):
        for dirty in (True, False):
            memory = (6, 7) if dirty else WORDS
            self.receives((1, (), (0, True, (), True, None, False)), ("returned", 1, 3, (6, 7), dirty),
                          (0, (), (0, True, (), False, (6, 7), True)), memory, (grant(0, "modified", (6, 7)),))

    def test_the_former_owner_becomes_the_only_sharer(self):
        self.receives((1, (2, 3), (0, False, (), True, None, False)), ("returned", 1, 3, (6, 7), False),
                      (None, (1, 0), (0, False, (), False, (6, 7), True)), WORDS, (grant(0, "shared", (6, 7)),))

    def test_others_are_still_waited_for(self):
        self.receives((1, (2,), (0, True, (2,), True, None, False)), ("returned", 1, 3, (6, 7), True),
                      (None, (), (0, True, (2,), False, (6, 7), False)), (6, 7), ())


class ReceivedTest(Home):
    def test_no_request_is_served_any_more(self):
        for owner, sharers in ((0, ()), (None, (1, 0)), (None, (0,))):
            for exclusive in (True, False):
                self.receives((owner, sharers, (0, exclusive, (), False, WORDS, True)), ("received", 0, 3),
                              (owner, sharers, None), (8, 9), (), words=(8, 9))


class GiveUpTest(Home):
    def test_from_the_owner(self):
        self.receives((0, (), None), GIVE_UP, IDLE, (1, 2), (("confirm", 0, 3),))
        self.receives((0, (), None), ("give up", 0, 3, (1, 2), False), IDLE, WORDS, (("confirm", 0, 3),))
        self.receives((2, (1,), None), ("give up", 2, 3, (1, 2), True), (None, (1,), None), (1, 2),
                      (("confirm", 2, 3),))

    def test_from_a_core_that_is_no_owner_any_more(self):
        for owner, sharers in ((None, ()), (None, (0, 1)), (1, ()), (None, (2,))):
            for dirty in (True, False):
                self.receives((owner, sharers, None), ("give up", 0, 3, (1, 2), dirty), (owner, sharers, None), WORDS,
                              (("confirm", 0, 3),))


class GrantTableTest(Home):
    def test_each_row(self):
        for config in CONFIGS:
            for sharers in ((), (1,), (0,), (0, 1), (1, 2)):
                for exclusive, name in ((True, "get modified"), (False, "get shared")):
                    home, words, messages = self.call(home_receives, config, (None, sharers, None), WORDS, (name, 0, 3))
                    for other in [other for other in sharers if other != 0 and exclusive]:
                        self.assertEqual((home[0], home[2][5]), (None, False))
                        home, words, messages = home_receives(config, home, words, ("invalidated", other, 3))
                    if exclusive:
                        wanted = (0, (), "modified")
                    elif config.exclusive_state and not sharers:
                        wanted = (0, (), "exclusive")
                    else:
                        wanted = (None, sharers if 0 in sharers else sharers + (0,), "shared")
                    self.assertEqual((home[0], home[1], messages), (*wanted[:2], (grant(0, wanted[2]),)))
                    self.assertEqual((home[2], words), ((0, exclusive, (), False, WORDS, True), WORDS))


class StoryTest(Home):
    def test_the_example(self):
        home, words, messages = self.call(home_receives, PLAIN, (1, (), None), WORDS, ("get shared", 0, 3))
        self.assertEqual((home, words, messages),
                         ((1, (), (0, False, (), True, None, False)), (4, 5), (("recall", 1, 3, True),)))
        home, words, messages = self.call(home_receives, PLAIN, home, words, ("returned", 1, 3, (6, 5), True))
        self.assertEqual((home, words, messages), ((None, (1, 0), (0, False, (), False, (6, 5), True)), (6, 5),
                                                   (("grant", 0, 3, "shared", (6, 5)),)))
        self.receives(home, ("received", 0, 3), (None, (1, 0), None), (6, 5), (), words=(6, 5))

    def test_one_request_after_another(self):
        home, words, _ = home_receives(CAREFUL, IDLE, WORDS, ("get shared", 1, 3))
        home, words, _ = home_receives(CAREFUL, home, words, ("received", 1, 3))
        home, words, _ = home_receives(CAREFUL, home, words, ("get shared", 2, 3))
        home, words, _ = home_receives(CAREFUL, home, words, ("received", 2, 3))
        self.assertEqual(home, (None, (1, 2), None))
        home, words, messages = home_receives(CAREFUL, home, words, ("get modified", 2, 3))
        self.assertEqual(messages, (("invalidate", 1, 3),))
        home, words, messages = home_receives(CAREFUL, home, words, ("invalidated", 1, 3))
        self.assertEqual(messages, (grant(2, "modified"),))
        home, words, _ = home_receives(CAREFUL, home, words, ("received", 2, 3))
        self.assertEqual((home, words), ((2, (), None), WORDS))
        home, words, messages = home_receives(CAREFUL, home, words, ("give up", 2, 3, (8, 9), True))
        self.assertEqual((home, words, messages), (IDLE, (8, 9), (("confirm", 2, 3),)))
