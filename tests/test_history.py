"""The history machine: [102] to [108]."""

from litmuscore.history import final_outcome, first_situation, found_word, is_final, word_at
from tests.helpers import (
    ORDERS, PLAIN, STORE_BUFFERING, ZEROS, Case, Machine, effect, read, registers, stepped, together,
)

ONE = ("addi", 1, 0, 1)
LOAD = ("load", 2, 0, 0)
STORE = ("store", 1, 0, 0)
LINK = ("load linked", 2, 0)
CONDITIONAL = ("store conditional", 3, 0, 1)
BUFFERED = ("tso", "pso", "wmm")


class SituationTest(Case):
    def test_the_first_situation(self):
        program = ((), (3, 0), (5,))
        views = (((3, ZEROS, False, -1), (), 0, 0, 0, (), 0), ((0, ZEROS, False, -1), (), 0, 0, 0, (), 0))
        self.expect(((), views), first_situation, program)

    def test_the_word_at_a_time(self):
        program = ((), (0, 0), (5, 6))
        history = ((0, 0, 1), (1, 1, 2), (1, 0, 3))
        for time, words in enumerate(((5, 6), (1, 6), (1, 2), (3, 2))):
            for address in (0, 1):
                self.expect(words[address], word_at, program, history, address, time)
        self.expect(5, word_at, program, (), 0, 0)

    def test_the_word_that_a_load_finds(self):
        program = ((), (0, 0), (5, 6, 7))
        history = ((0, 0, 1), (1, 0, 2), (0, 1, 3), (1, 0, 4))
        views = (first_situation(program)[1][0][:1] + ((("store", 2, 8), ("fence",), ("store", 2, 9)), 0, 0, 0, (), 0),
                 first_situation(program)[1][1])
        situation = (history, views)
        # Core 0 has its own stores to the address 2 in its buffer, and entries for 0 and 1 in the history.
        for core, address, words in (
            (0, 0, (1, 1, 2, 2, 4)), (0, 1, (3, 3, 3, 3, 3)), (0, 2, (9, 9, 9, 9, 9)),
            (1, 0, (4, 4, 4, 4, 4)), (1, 1, (6, 6, 6, 3, 3)), (1, 2, (7, 7, 7, 7, 7)),
        ):
            for time in range(5):
                self.expect(words[time], found_word, program, situation, core, address, time)

    def test_the_buffer_comes_before_the_history(self):
        program = ((), (0,), (5,))
        state = first_situation(program)[1][0][0]
        situation = (((0, 0, 1),), ((state, (("store", 0, 2), ("store", 0, 0)), 0, 0, 0, (), 0),))
        for time in (0, 1):
            self.expect(0, found_word, program, situation, 0, 0, time)


class PlainStepTest(Machine):
    def test_steps_without_access_and_fence(self):
        for order in ORDERS:
            for instruction in (ONE, ("add", 1, 1, 1), ("jump", 1), ("branch", "eq", 0, 0, 1), ("fence", "slot")):
                self.begin(together((instruction,), memory=(0,)), order)
                self.bars(stepped(0, time=1), stepped(0, (0, True)), stepped(0, (1, False)))
                self.go(stepped(0))
                state = (1, registers(r1=1) if instruction == ONE else ZEROS, False, -1)
                self.assertEqual(self.now, ((), ((state, (), 0, 0, 0, (), 0),)))

    def test_halting(self):
        for order in ORDERS:
            for instruction in (("halt",), ("load", 1, 0, 1), ("store", 1, 0, 1)):
                self.begin(together((instruction,), memory=(0,)), order)
                self.bars(stepped(0, time=1), read(0, 1))
                self.go(stepped(0))
                self.assertEqual(self.view(0), ((0, ZEROS, True, -1), (), 0, 0, 0, (), 0))
                self.bars(stepped(0), read(0, 1), stepped(0, (0, True)))

    def test_a_load_that_halts_has_no_time(self):
        self.begin(together((ONE, STORE), (("load", 1, 0, 9),), memory=(0,)), "wmm")
        self.go(stepped(0), stepped(0), effect(0))
        self.bars(stepped(1, time=1))
        self.go(stepped(1))

    def test_cores_that_do_not_exist(self):
        for order in ORDERS:
            self.begin(STORE_BUFFERING, order)
            self.bars(stepped(2), stepped(1000), effect(2), effect(1000, 1000), effect(0), effect(1, 7))


class FenceTest(Machine):
    def test_loads(self):
        for order in ORDERS:
            self.begin(together((ONE, STORE), (LOAD, ("fence", "loads")), memory=(0,)), order)
            self.go(stepped(0), stepped(0), effect(0), read(1, 1, 1))
            before = self.now
            self.bars(stepped(1, time=1))
            self.go(stepped(1))
            self.assertEqual(self.times(1), (1, 1, 0, ((0, 1),), 0) if order == "wmm" else (0, 0, 0, (), 0))
            self.assertEqual((self.history(), self.view(0)), (before[0], before[1][0]))

    def test_other_steps_do_not_change_the_floor(self):
        for instruction in (ONE, ("fence", "slot"), ("fence", "stores"), ("jump", 5), ("store", 0, 0, 0), ("halt",)):
            self.begin(together((ONE, STORE), (LOAD, instruction), memory=(0,)), "wmm")
            self.go(stepped(0), stepped(0), effect(0), read(1, 1, 1), stepped(1))
            self.assertEqual(self.times(1), (0, 1, 0, ((0, 1),), 0))

    def test_loads_while_stores_wait(self):
        for order in ORDERS:
            self.begin(together((STORE, ("fence", "loads")), memory=(0,)), order)
            self.go(stepped(0), stepped(0))
            self.assertEqual(self.view(0)[1], (("store", 0, 0),))

    def test_loads_does_not_reach_the_own_stores(self):
        self.begin(together((STORE, ("fence", "loads"), ("fence", "full")), memory=(0,)), "wmm")
        self.go(stepped(0), effect(0), stepped(0))
        self.assertEqual(self.times(0), (0, 0, 1, (), 0))
        self.go(stepped(0))
        self.assertEqual(self.times(0), (1, 0, 1, (), 0))

    def test_floor_never_becomes_less(self):
        piece = (("load", 1, 0, 0), ("fence", "loads"), ("load", 1, 0, 1), ("fence", "loads"), ("fence", "full"))
        self.begin(together((STORE, ("store", 0, 0, 1)), piece, memory=(0, 0)), "wmm")
        self.go(stepped(0), stepped(0), effect(0), effect(0), read(1, 0, 2), stepped(1))
        self.assertEqual(self.times(1), (2, 2, 0, ((0, 2),), 0))
        self.go(read(1, 0, 2), stepped(1), stepped(1))
        self.assertEqual(self.times(1), (2, 2, 0, ((0, 2), (1, 2)), 0))

    def test_stores(self):
        piece = (("fence", "stores"), STORE, ("fence", "stores"), ("fence", "stores"))
        for order in ORDERS:
            self.begin(together(piece, memory=(0,)), order)
            self.go(stepped(0))
            self.assertEqual(self.view(0)[1], ())
            self.go(stepped(0))
            self.bars(stepped(0, time=1))
            self.go(stepped(0))
            self.assertEqual(self.view(0)[1:], ((("store", 0, 0), ("fence",)), 0, 0, 0, (), 0))
            self.go(stepped(0))
            self.assertEqual(self.view(0)[1], (("store", 0, 0), ("fence",)))
            self.go(effect(0))
            self.assertEqual(self.view(0)[1], ())

    def test_full(self):
        for order in ORDERS:
            self.begin(together((STORE, ("fence", "full")), memory=(0,)), order)
            self.go(stepped(0))
            self.bars(stepped(0))
            self.go(effect(0))
            self.bars(stepped(0, time=1))
            self.go(stepped(0))
            self.assertEqual(self.times(0), (1, 0, 1, (), 0) if order == "wmm" else (0, 0, 0, (), 0))

    def test_full_reaches_the_top(self):
        self.begin(together((LOAD, ("fence", "full")), (STORE, STORE), memory=(0,)), "wmm")
        self.go(stepped(1), stepped(1), effect(1), effect(1), read(0, 0, 2), stepped(0))
        self.assertEqual(self.times(0), (2, 2, 0, ((0, 2),), 0))


class StoreTest(Machine):
    def test_the_store_is_appended_to_the_buffer(self):
        program = together((ONE, STORE, ("store", 1, 0, 1)), memory=(0, 0))
        for order in ORDERS:
            self.begin(program, order)
            self.go(stepped(0))
            self.bars(stepped(0, time=1))
            self.go(stepped(0))
            self.assertEqual(self.now, ((), (((2, registers(r1=1), False, -1), (("store", 0, 1),), 0, 0, 0, (), 0),)))
            if order == "sc":
                self.bars(stepped(0))
                self.go(effect(0))
                self.go(stepped(0))
                self.assertEqual(self.view(0)[1], (("store", 1, 1),))
            else:
                self.go(stepped(0))
                self.assertEqual(self.view(0)[1], (("store", 0, 1), ("store", 1, 1)))

    def test_stores_of_other_cores_do_not_matter(self):
        self.begin(together((STORE,), (STORE,), memory=(0,)), "sc")
        self.go(stepped(0), stepped(1))


class EffectTest(Machine):
    piece = (ONE, STORE, ("store", 0, 0, 0), ("fence", "stores"), ("store", 1, 0, 1), ("store", 1, 0, 2))

    def test_a_store_takes_effect(self):
        for order in BUFFERED:
            self.begin(together(self.piece[:2], memory=(0,)), order)
            self.go(stepped(0), stepped(0), effect(0))
            self.assertEqual(self.history(), ((0, 0, 1),))
            self.assertEqual(self.view(0)[1], ())
            self.assertEqual(self.times(0), (0, 0, 1 if order == "wmm" else 0, (), 0))
            self.bars(effect(0), effect(0, 1))

    def test_top_store_is_the_new_now(self):
        self.begin(together((STORE,), (STORE, STORE), memory=(0,)), "wmm")
        self.go(stepped(0), stepped(1), stepped(1), effect(1), effect(0), effect(1))
        self.assertEqual((self.times(0)[2], self.times(1)[2]), (2, 3))
        self.assertEqual(self.history(), ((1, 0, 0), (0, 0, 0), (1, 0, 0)))

    def test_entries_that_are_no_store_or_may_not_leave(self):
        for order in BUFFERED:
            self.begin(together(self.piece, memory=(0, 0, 0)), order)
            self.go(*[stepped(0)] * 6)
            self.assertEqual(self.view(0)[1], (("store", 0, 1), ("store", 0, 0), ("fence",), ("store", 1, 1),
                                               ("store", 2, 1)))
            self.bars(effect(0, 1), effect(0, 2), effect(0, 3), effect(0, 4), effect(0, 5), effect(0, 1000))
            self.go(effect(0), effect(0))
            self.assertEqual(self.view(0)[1], (("store", 1, 1), ("store", 2, 1)))
            if order == "tso":
                self.bars(effect(0, 1))
            else:
                self.go(effect(0, 1))
                self.assertEqual(self.history(), ((0, 0, 1), (0, 0, 0), (0, 2, 1)))

    def test_effects_after_the_core_has_halted(self):
        for order in ORDERS:
            self.begin(together((STORE,), memory=(0,)), order)
            self.go(stepped(0), stepped(0), effect(0))
            self.assertTrue(is_final(self.now))


class LoadTest(Machine):
    # Core 0 stores 1, 2 and 3 to the address 0.
    writer = (("addi", 1, 0, 1), STORE, ("addi", 1, 1, 1), STORE, ("addi", 1, 1, 1), STORE)

    def written(self, order, piece, memory=(7, 8)):
        self.begin(together(self.writer, piece, memory=memory), order)
        for _ in range(3):
            self.go(stepped(0), stepped(0), effect(0))

    def test_the_word_now(self):
        for order in ("sc", "tso", "pso"):
            self.written(order, (LOAD,))
            self.bars(read(1, 7, 0), read(1, 1, 1), read(1, 2, 2), read(1, 2, 3), read(1, 3, 4), read(1, 3, 2))
            self.bars(("step", 1, (3, True), 3))
            self.go(read(1, 3, 3))
            self.assertEqual(self.view(1), ((8, registers(r2=3), False, -1), (), 0, 0, 0, (), 0))

    def test_words_of_the_past(self):
        for time, word in enumerate((7, 1, 2, 3)):
            self.written("wmm", (LOAD,))
            self.bars(*[read(1, other, time) for other in (0, 1, 2, 3, 7) if other != word])
            self.bars(read(1, 3, 4), read(1, 3, 1000))
            self.go(read(1, word, time))
            self.assertEqual(self.times(1), (0, time, 0, ((0, time),), 0))

    def test_the_time_at_which_the_address_is_seen(self):
        self.written("wmm", (LOAD, LOAD, ("load", 2, 0, 1)))
        self.go(read(1, 2, 2))
        self.bars(read(1, 1, 1), read(1, 7, 0))
        self.go(read(1, 2, 2))
        self.go(read(1, 8, 0))
        self.assertEqual(self.times(1), (0, 2, 0, ((0, 2), (1, 0)), 0))

    def test_one_pair_for_each_address_in_ascending_order(self):
        piece = (("load", 2, 0, 1), LOAD, LOAD, ("load", 2, 0, 1))
        self.written("wmm", piece)
        self.go(read(1, 8, 1), read(1, 1, 1))
        self.assertEqual(self.times(1), (0, 1, 0, ((0, 1), (1, 1)), 0))
        self.go(read(1, 3, 3), read(1, 8, 2))
        self.assertEqual(self.times(1), (0, 3, 0, ((0, 3), (1, 2)), 0))

    def test_the_floor(self):
        self.written("wmm", (LOAD, ("fence", "loads"), ("load", 2, 0, 1)))
        self.go(read(1, 2, 2), stepped(1))
        self.bars(read(1, 8, 1), read(1, 8, 0), read(1, 8, 4))
        self.go(read(1, 8, 2))
        self.written("wmm", (LOAD, ("fence", "loads"), ("load", 2, 0, 1)))
        self.go(read(1, 2, 2), stepped(1), read(1, 8, 3))
        self.assertEqual(self.times(1), (2, 3, 0, ((0, 2), (1, 3)), 0))

    def test_the_greater_one_of_floor_and_the_time_seen(self):
        self.written("wmm", (LOAD, ("load", 2, 0, 1), ("fence", "loads"), ("load", 2, 0, 1), LOAD))
        self.go(read(1, 1, 1), read(1, 8, 2), stepped(1))
        self.bars(read(1, 8, 1))
        self.go(read(1, 8, 3))
        self.bars(read(1, 1, 1))
        self.go(read(1, 2, 2))

    def test_a_store_that_waits(self):
        for order in ORDERS:
            self.begin(together((ONE, ("store", 1, 0, 1), LOAD, ("load", 3, 0, 1)), memory=(7, 8)), order)
            self.go(stepped(0), stepped(0))
            if order == "sc":
                self.bars(read(0, 7))
                self.go(effect(0))
                self.go(read(0, 7, 1))
                continue
            self.go(read(0, 7))
            self.bars(read(0, 8))
            self.go(read(0, 1))
            self.assertEqual(self.view(0)[1], (("store", 1, 1),))

    def test_an_own_store_after_the_time(self):
        self.begin(together((ONE, STORE, LOAD), (("addi", 1, 0, 5), STORE), memory=(7,)), "wmm")
        self.go(stepped(0), stepped(0), stepped(1), stepped(1), effect(0), effect(1))
        self.bars(read(0, 7, 0), read(0, 5, 0), read(0, 5, 1), read(0, 1, 2))
        for time, word in ((0, 1), (1, 1), (2, 5)):
            self.assertIsNotNone(self.after(read(0, word, time)))


class AtomicTest(Machine):
    def test_swap_and_fetch_add(self):
        for instruction, stored in ((("swap", 2, 0, 1), 1), (("fetch add", 2, 0, 1), 10)):
            for order in ORDERS:
                self.begin(together((ONE, instruction), (("addi", 1, 0, 9), STORE), memory=(7,)), order)
                self.go(stepped(0), stepped(1), stepped(1), effect(1))
                self.bars(read(0, 7), read(0, 9, 1), read(0, 0), ("step", 0, (9, True), 0))
                self.go(read(0, 9))
                self.assertEqual(self.history(), ((1, 0, 9), (0, 0, stored)))
                self.assertEqual(self.view(0)[:2], ((2, registers(r1=1, r2=9), False, -1), ()))
                self.assertEqual(self.times(0), (0, 2, 2, ((0, 2),), 0) if order == "wmm" else (0, 0, 0, (), 0))

    def test_no_stores_wait(self):
        for instruction in (("swap", 2, 0, 1), ("fetch add", 2, 0, 1), LINK, CONDITIONAL):
            for order in ORDERS:
                self.begin(together((("store", 0, 0, 1), instruction), memory=(0, 0)), order)
                self.go(stepped(0))
                self.bars(stepped(0))
                self.go(effect(0))
                self.go(stepped(0))

    def test_stores_of_another_core_may_wait(self):
        self.begin(together((STORE,), (("swap", 2, 0, 1),), memory=(0,)), "tso")
        self.go(stepped(0), read(1, 0))

    def test_load_linked(self):
        for order in ORDERS:
            self.begin(together((LINK,), (STORE, STORE), memory=(7,)), order)
            self.go(stepped(1), effect(1), stepped(1), effect(1))
            self.bars(read(0, 7), read(0, 0, 2), read(0, 0, 1))
            self.go(read(0, 0))
            self.assertEqual(self.history(), ((1, 0, 0), (1, 0, 0)))
            self.assertEqual(self.view(0)[0], (1, ZEROS, False, 0))
            self.assertEqual(self.times(0), (0, 2, 0, ((0, 2),), 2) if order == "wmm" else (0, 0, 0, (), 2))

    def test_a_store_conditional_that_succeeds(self):
        for order in ORDERS:
            self.begin(together((ONE, LINK, CONDITIONAL), (STORE,), memory=(7,)), order)
            self.go(stepped(1), effect(1), stepped(0), read(0, 0))
            self.bars(stepped(0, (0, True), 1), stepped(0, (1, True)))
            self.go(stepped(0, (0, True)))
            self.assertEqual(self.history(), ((1, 0, 0), (0, 0, 1)))
            self.assertEqual(self.view(0)[0], (3, registers(r1=1), False, -1))
            self.assertEqual(self.times(0), (0, 2, 2, ((0, 2),), 0) if order == "wmm" else (0, 0, 0, (), 0))

    def test_a_store_conditional_that_fails(self):
        for order in ORDERS:
            self.begin(together((ONE, LINK, CONDITIONAL), (STORE,), memory=(7,)), order)
            self.go(stepped(0), read(0, 7), stepped(1), effect(1))
            self.assertEqual(self.times(0), (0, 0, 0, ((0, 0),), 0) if order == "wmm" else (0, 0, 0, (), 0))
            self.bars(stepped(0, PLAIN, 1))
            self.go(stepped(0))
            self.assertEqual(self.history(), ((1, 0, 0),))
            self.assertEqual(self.view(0)[0], (3, registers(r1=1, r2=7, r3=1), False, -1))
            self.assertEqual(self.times(0), (0, 1, 0, ((0, 1),), 0) if order == "wmm" else (0, 0, 0, (), 0))

    def test_another_core_has_written_after_the_link(self):
        for order in ORDERS:
            for other, possible in ((STORE, False), (("store", 0, 0, 1), True), (("swap", 1, 0, 1), False)):
                self.begin(together((LINK, CONDITIONAL), (other,), memory=(0, 0)), order)
                self.go(read(0, 0), stepped(1))
                if other[0] == "store":
                    self.go(effect(1))
                self.assertEqual(self.after(stepped(0, (0, True))) is not None, possible)
                self.assertIsNotNone(self.after(stepped(0)))

    def test_a_write_before_the_link_and_a_store_that_waits(self):
        for order in ORDERS:
            self.begin(together((LINK, CONDITIONAL), (STORE,), memory=(0,)), order)
            self.go(stepped(1), effect(1), read(0, 0), stepped(0, (0, True)))
            self.begin(together((LINK, CONDITIONAL), (STORE,), memory=(0,)), order)
            self.go(stepped(1), read(0, 0), stepped(0, (0, True)))

    def test_own_writes_after_the_link(self):
        self.begin(together((LINK, STORE, CONDITIONAL), memory=(0,)), "wmm")
        self.go(read(0, 0), stepped(0), effect(0), stepped(0, (0, True)))

    def test_success_needs_the_link(self):
        self.begin(together((CONDITIONAL, LINK, ("store conditional", 3, 1, 1)), memory=(0,)), "sc")
        self.bars(stepped(0, (0, True)))
        self.go(stepped(0))

    def test_link_time_stays_with_the_link(self):
        for order in ORDERS:
            piece = (LINK, ONE, ("fence", "full"), LOAD, CONDITIONAL)
            self.begin(together(piece, (STORE, STORE), memory=(0,)), order)
            self.go(stepped(1), effect(1), read(0, 0))
            for move in (stepped(0), stepped(0), stepped(1), effect(1), read(0, 0, 2)):
                self.go(move)
                self.assertEqual(self.times(0)[4], 1)
            self.bars(stepped(0, (0, True)))
            self.go(stepped(0))
            self.assertEqual(self.times(0)[4], 0)

    def test_link_time_is_that_of_the_last_load_linked(self):
        for order in ORDERS:
            self.begin(together((LINK, LINK, CONDITIONAL), (STORE,), memory=(0,)), order)
            self.go(read(0, 0), stepped(1), effect(1))
            self.assertEqual(self.times(0)[4], 0)
            self.go(read(0, 0))
            self.assertEqual(self.times(0)[4], 1)
            self.go(stepped(0, (0, True)))
            self.assertEqual(self.times(0)[4], 0)


class FinalTest(Machine):
    def test_final_situations(self):
        for order in BUFFERED:
            self.begin(together((ONE, STORE), (("halt",),), memory=(7, 8)), order)
            for move in (stepped(0), stepped(1), stepped(0), stepped(0)):
                self.expect(False, is_final, self.now)
                self.go(move)
            self.expect(False, is_final, self.now)
            self.go(effect(0))
            self.expect(True, is_final, self.now)
            states = ((2, registers(r1=1), True, -1), (3, ZEROS, True, -1))
            self.expect((states, (1, 8)), final_outcome, self.program, self.now)

    def test_a_core_that_has_not_halted(self):
        self.begin(together((), (), memory=(7,)), "sc")
        self.go(stepped(1))
        self.expect(False, is_final, self.now)
        self.go(stepped(0))
        self.expect(True, is_final, self.now)
        states = ((0, ZEROS, True, -1), (1, ZEROS, True, -1))
        self.expect((states, (7,)), final_outcome, self.program, self.now)

    def test_the_words_of_an_outcome_are_those_now(self):
        self.begin(together((ONE, STORE), (STORE, ("swap", 3, 0, 2)), memory=(7,)), "wmm")
        self.go(stepped(0), stepped(0), stepped(1), effect(1), read(1, 0), effect(0), stepped(0), stepped(1))
        self.expect(True, is_final, self.now)
        self.assertEqual(final_outcome(self.program, self.now)[1], (1,))


class StoryTest(Machine):
    writer = (ONE, ("store", 1, 0, 2), ("fence", "stores"), ("store", 1, 0, 3))

    def story(self, reader):
        self.begin(together(self.writer, reader, memory=(0, 0, 0, 0)), "wmm")
        self.go(*[stepped(0)] * 4)
        self.bars(effect(0, 1), effect(0, 2))
        self.go(effect(0), effect(0))
        self.assertEqual(self.history(), ((0, 2, 1), (0, 3, 1)))

    def test_the_story_of_the_document(self):
        self.story((("load", 1, 0, 3), ("load", 2, 0, 2)))
        for time, word in ((0, 0), (1, 0), (2, 1)):
            self.assertIsNotNone(self.after(read(1, word, time)))
            self.bars(read(1, 1 - word, time))
        self.bars(read(1, 1, 3))
        self.go(read(1, 1, 2))
        self.assertEqual(self.times(1), (0, 2, 0, ((3, 2),), 0))
        for time, word in ((0, 0), (1, 1), (2, 1)):
            self.assertIsNotNone(self.after(read(1, word, time)))

    def test_with_a_fence_between_the_loads(self):
        self.story((("load", 1, 0, 3), ("fence", "loads"), ("load", 2, 0, 2)))
        self.go(read(1, 1, 2), stepped(1))
        self.assertEqual(self.times(1)[0], 2)
        self.bars(read(1, 0, 0), read(1, 1, 1))
        self.go(read(1, 1, 2))
