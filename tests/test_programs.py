"""Programs, steps and runs: [40] to [47]."""

from litmuscore.programs import run, start_state, step
from tests.helpers import PLAIN, ZEROS, Case, registers

MEMORY = (10, 11, 12, 13)
WORDS = registers(r1=3, r2=65535, r3=7, r4=4)


def alone(instruction, memory=MEMORY):
    """A program that has this instruction at the code address 1, behind a halt."""
    return ((("halt",), instruction), (1,), memory)


def at_one(words=WORDS, link=-1):
    return (1, words, False, link)


class StartTest(Case):
    def test_each_core_starts_at_its_entry(self):
        program = ((("halt",),), (0, 24, 0), (5,))
        self.expect((0, ZEROS, False, -1), start_state, program, 0)
        self.expect((24, ZEROS, False, -1), start_state, program, 1)
        self.expect((0, ZEROS, False, -1), start_state, program, 2)


class ComputingTest(Case):
    def result(self, instruction, wanted, pc=2, link=-1):
        state = at_one(link=link)
        self.expect(((pc, wanted, False, link), None, None), step, alone(instruction), state, PLAIN)

    def test_operations(self):
        for operation, word in (("add", 2), ("sub", 4), ("mul", 65533), ("and", 3), ("or", 65535), ("xor", 65532),
                                ("slt", 0), ("sltu", 1)):
            self.result((operation, 5, 1, 2), registers(r1=3, r2=65535, r3=7, r4=4, r5=word))

    def test_operations_take_ra_before_rb(self):
        self.result(("sub", 5, 3, 1), registers(r1=3, r2=65535, r3=7, r4=4, r5=4))
        self.result(("slt", 5, 2, 1), registers(r1=3, r2=65535, r3=7, r4=4, r5=1))

    def test_addi(self):
        self.result(("addi", 5, 1, 9), registers(r1=3, r2=65535, r3=7, r4=4, r5=12))
        self.result(("addi", 5, 2, 3), registers(r1=3, r2=65535, r3=7, r4=4, r5=2))
        self.result(("addi", 5, 0, 65535), registers(r1=3, r2=65535, r3=7, r4=4, r5=65535))

    def test_register_0_stays_0(self):
        self.result(("add", 0, 1, 3), WORDS)
        self.result(("addi", 0, 1, 1), WORDS)

    def test_sources_that_are_the_destination(self):
        self.result(("add", 3, 3, 3), registers(r1=3, r2=65535, r3=14, r4=4))
        self.result(("addi", 2, 2, 2), registers(r1=3, r2=1, r3=7, r4=4))

    def test_the_last_register(self):
        self.result(("addi", 7, 1, 0), registers(r1=3, r2=65535, r3=7, r4=4, r7=3))

    def test_the_link_is_kept(self):
        self.result(("addi", 0, 1, 1), WORDS, link=2)
        self.result(("jump", 0), WORDS, pc=0, link=2)
        self.result(("branch", "eq", 0, 0, 9), WORDS, pc=9, link=2)


class CodeAddressTest(Case):
    def new_address(self, instruction):
        state, access, fence = self.call(step, alone(instruction), at_one(), PLAIN)
        self.assertEqual((state[1:], access, fence), ((WORDS, False, -1), None, None))
        return state[0]

    def test_branches_of_each_relation(self):
        # Register 1 has 3, register 2 has 65535 (-1 as signed).
        for relation, left, right, taken in (
            ("eq", 1, 1, True), ("eq", 1, 2, False), ("ne", 1, 2, True), ("ne", 2, 2, False),
            ("lt", 2, 1, True), ("lt", 1, 2, False), ("lt", 1, 1, False),
            ("ge", 1, 2, True), ("ge", 2, 1, False), ("ge", 2, 2, True),
            ("ltu", 1, 2, True), ("ltu", 2, 1, False), ("geu", 2, 1, True), ("geu", 1, 2, False),
        ):
            wanted = 17 if taken else 2
            self.assertEqual(self.new_address(("branch", relation, left, right, 17)), wanted, (relation, left, right))

    def test_jump(self):
        self.assertEqual(self.new_address(("jump", 0)), 0)
        self.assertEqual(self.new_address(("jump", 24)), 24)
        self.assertEqual(self.new_address(("jump", 1)), 1)


class FenceTest(Case):
    def test_as_which_fence_a_step_acts(self):
        for kind, wanted in (("loads", "loads"), ("stores", "stores"), ("full", "full"), ("slot", None)):
            self.expect(((2, WORDS, False, 3), None, wanted), step, alone(("fence", kind)), at_one(link=3), PLAIN)


class MemoryTest(Case):
    def test_load(self):
        for word in (0, 9, 65535):
            after = (2, registers(r1=3, r2=65535, r3=7, r4=4, r5=word), False, -1)
            self.expect((after, ("load", 3, word), None), step, alone(("load", 5, 1, 0)), at_one(), (word, False))

    def test_load_whose_destination_is_its_source(self):
        after = (2, registers(r1=8, r2=65535, r3=7, r4=4), False, -1)
        self.expect((after, ("load", 3, 8), None), step, alone(("load", 1, 1, 0)), at_one(), (8, False))

    def test_the_word_is_read_also_for_register_0(self):
        after = (2, WORDS, False, -1)
        self.expect((after, ("load", 3, 8), None), step, alone(("load", 0, 1, 0)), at_one(), (8, False))
        self.expect((after, ("atomic", 3, 8, 7), None), step, alone(("swap", 0, 1, 3)), at_one(), (8, False))
        self.expect((after, ("atomic", 3, 8, 15), None), step, alone(("fetch add", 0, 1, 3)), at_one(), (8, False))

    def test_addresses_modulo_65536(self):
        after = (2, registers(r1=3, r2=65535, r3=7, r4=4, r5=6), False, -1)
        self.expect((after, ("load", 2, 6), None), step, alone(("load", 5, 2, 3)), at_one(), (6, False))
        after = (2, WORDS, False, -1)
        self.expect((after, ("store", 1, 7), None), step, alone(("store", 3, 2, 2)), at_one(), PLAIN)

    def test_store(self):
        after = (2, WORDS, False, 1)
        self.expect((after, ("store", 3, 65535), None), step, alone(("store", 2, 0, 3)), at_one(link=1), PLAIN)
        self.expect((after, ("store", 3, 0), None), step, alone(("store", 0, 1, 0)), at_one(link=1), PLAIN)

    def test_swap(self):
        after = (2, registers(r1=3, r2=65535, r3=7, r4=4, r5=9), False, 1)
        access = ("atomic", 3, 9, 7)
        self.expect((after, access, None), step, alone(("swap", 5, 1, 3)), at_one(link=1), (9, False))

    def test_swap_of_one_register(self):
        after = (2, registers(r1=9, r2=65535, r3=7, r4=4), False, -1)
        self.expect((after, ("atomic", 3, 9, 3), None), step, alone(("swap", 1, 1, 1)), at_one(), (9, False))

    def test_fetch_add(self):
        after = (2, registers(r1=3, r2=65535, r3=7, r4=4, r5=9), False, -1)
        self.expect((after, ("atomic", 3, 9, 8), None), step, alone(("fetch add", 5, 1, 2)), at_one(), (9, False))

    def test_load_linked_replaces_the_link(self):
        for link in (-1, 0, 3):
            after = (2, registers(r1=3, r2=65535, r3=7, r4=4, r5=9), False, 3)
            access = ("load linked", 3, 9)
            self.expect((after, access, None), step, alone(("load linked", 5, 1)), at_one(link=link), (9, False))

    def test_load_linked_links_the_address_before_the_step(self):
        after = (2, registers(r1=0, r2=65535, r3=7, r4=4), False, 3)
        self.expect((after, ("load linked", 3, 0), None), step, alone(("load linked", 1, 1)), at_one(), PLAIN)

    def test_store_conditional_at_the_link(self):
        program = alone(("store conditional", 5, 1, 3))
        after = (2, WORDS, False, -1)
        access = ("store conditional", 3, 7, True)
        self.expect((after, access, None), step, program, at_one(link=3), (0, True))
        after = (2, registers(r1=3, r2=65535, r3=7, r4=4, r5=1), False, -1)
        access = ("store conditional", 3, 7, False)
        self.expect((after, access, None), step, program, at_one(link=3), PLAIN)

    def test_store_conditional_at_another_address_and_without_a_link(self):
        program = alone(("store conditional", 3, 1, 3))
        for link in (2, -1, 65535):
            after = (2, registers(r1=3, r2=65535, r3=1, r4=4), False, -1)
            access = ("store conditional", 3, 7, False)
            self.expect((after, access, None), step, program, at_one(link=link), PLAIN)
            self.expect(None, step, program, at_one(link=link), (0, True))


class HaltTest(Case):
    def halts(self, program, state):
        after = (state[0], state[1], True, state[3])
        self.expect((after, None, None), step, program, state, PLAIN)
        for choice in ((0, True), (1, False), (1, True)):
            self.expect(None, step, program, state, choice)

    def test_halt_changes_nothing_but_halted(self):
        self.halts(alone(("halt",)), at_one(link=2))

    def test_outside_of_the_code(self):
        for pc in (2, 3, 24, 1000):
            self.halts(alone(("addi", 1, 1, 1)), (pc, WORDS, False, 2))
        self.halts(((), (0,), (1,)), (0, ZEROS, False, -1))

    def test_outside_of_memory(self):
        # Register 4 has 4, which is outside of memory by one; 3 is the last address.
        for instruction in (
            ("load", 5, 4, 0), ("load", 5, 1, 1), ("store", 5, 4, 0), ("load", 5, 0, 65535), ("swap", 5, 4, 1),
            ("fetch add", 5, 4, 1), ("load linked", 5, 4), ("store conditional", 5, 4, 1), ("store", 5, 2, 0),
        ):
            self.halts(alone(instruction), at_one(link=2))
        self.halts(alone(("store conditional", 5, 4, 1)), at_one(link=4))
        self.assertIsNotNone(step(alone(("load", 5, 1, 0)), at_one(), PLAIN))

    def test_a_core_that_has_halted_has_no_next_step(self):
        for instruction in (("halt",), ("addi", 1, 1, 1), ("load", 1, 0, 0), ("store conditional", 1, 0, 0)):
            for choice in (PLAIN, (0, True), (5, False)):
                self.expect(None, step, alone(instruction), (1, WORDS, True, 0), choice)
        self.expect(None, step, alone(("halt",)), (9, WORDS, True, -1), PLAIN)


class ChoiceTest(Case):
    def test_steps_without_access_and_stores(self):
        for instruction in (("add", 1, 1, 1), ("addi", 1, 1, 1), ("store", 1, 0, 0), ("fence", "loads"),
                            ("fence", "slot"), ("branch", "eq", 0, 0, 1), ("jump", 1), ("halt",)):
            program = alone(instruction)
            self.assertIsNotNone(self.call(step, program, at_one(link=0), PLAIN))
            for choice in ((0, True), (1, False), (65535, False), (1, True)):
                self.expect(None, step, program, at_one(link=0), choice)

    def test_steps_that_read(self):
        for instruction in (("load", 5, 0, 0), ("swap", 5, 0, 1), ("fetch add", 5, 0, 1), ("load linked", 5, 0)):
            program = alone(instruction)
            for word in (0, 1, 65535):
                self.assertIsNotNone(self.call(step, program, at_one(link=0), (word, False)))
                self.expect(None, step, program, at_one(link=0), (word, True))

    def test_store_conditional(self):
        program = alone(("store conditional", 5, 1, 3))
        for link in (3, 2, -1):
            for choice, possible in ((PLAIN, True), ((0, True), link == 3), ((1, False), False), ((7, True), False)):
                self.assertEqual(self.call(step, program, at_one(link=link), choice) is not None, possible)


class RunTest(Case):
    code = (("load", 1, 0, 0), ("branch", "eq", 1, 0, 0), ("store", 1, 0, 1), ("halt",))
    program = (code, (0, 3), (0, 0))

    def test_an_empty_run(self):
        self.expect((), run, self.program, 0, ())

    def test_a_run_need_not_halt(self):
        steps = self.call(run, self.program, 0, (PLAIN, PLAIN, PLAIN))
        self.assertEqual([taken[0][0] for taken in steps], [1, 0, 1])
        self.assertFalse(steps[-1][0][2])

    def test_steps_do_not_ask_for_memory(self):
        choices = ((5, False), PLAIN, PLAIN, PLAIN)
        states = [(1, registers(r1=5), False, -1), (2, registers(r1=5), False, -1), (3, registers(r1=5), False, -1),
                  (3, registers(r1=5), True, -1)]
        accesses = [("load", 0, 5), None, ("store", 1, 5), None]
        self.expect(tuple((states[k], accesses[k], None) for k in range(4)), run, self.program, 0, choices)

    def test_the_longest_beginning_that_is_a_run(self):
        whole = ((5, False), PLAIN, PLAIN, PLAIN)
        steps = run(self.program, 0, whole)
        self.expect((), run, self.program, 0, ((5, True),) + whole[1:])
        self.expect(steps[:1], run, self.program, 0, ((5, False), (5, False), PLAIN, PLAIN))
        self.expect(steps[:2], run, self.program, 0, ((5, False), PLAIN, (0, True), PLAIN))
        self.expect(steps, run, self.program, 0, whole + (PLAIN,))
        self.expect(steps, run, self.program, 0, whole + (PLAIN, (1, True)))

    def test_each_core_begins_at_its_entry(self):
        self.expect((((3, ZEROS, True, -1), None, None),), run, self.program, 1, (PLAIN, PLAIN))

    def test_the_link_is_passed_on(self):
        code = (("load linked", 1, 0), ("store conditional", 2, 0, 0), ("store conditional", 3, 0, 0), ("halt",))
        program = (code, (0,), (4,))
        steps = self.call(run, program, 0, ((4, False), (0, True), PLAIN, PLAIN))
        self.assertEqual([taken[0][3] for taken in steps], [0, -1, -1, -1])
        self.assertEqual(steps[-1][0][1], registers(r1=4, r2=0, r3=1))
        self.assertEqual(len(self.call(run, program, 0, ((4, False), (0, True), (0, True)))), 2)

    def test_the_example_of_the_document(self):
        code = (("addi", 1, 0, 5), ("store", 1, 0, 2), ("load", 2, 0, 2), ("halt",))
        program = (code, (0,), (0, 0, 0))
        steps = self.call(run, program, 0, (PLAIN, PLAIN, (9, False), PLAIN))
        self.assertEqual(steps[1], ((2, (0, 5, 0, 0, 0, 0, 0, 0), False, -1), ("store", 2, 5), None))
        self.assertEqual(steps[2], ((3, (0, 5, 9, 0, 0, 0, 0, 0), False, -1), ("load", 2, 9), None))
        self.assertEqual(steps[3], ((3, (0, 5, 9, 0, 0, 0, 0, 0), True, -1), None, None))
        self.expect((), run, program, 0, ((1, False),))

    def test_numbers_somewhat_beyond_the_limits(self):
        code = tuple(("addi", 1, 1, 1) for _ in range(40)) + (("jump", 60),)
        program = (code, (0,) * 6, (0,) * 20)
        steps = self.call(run, program, 5, (PLAIN,) * 80)
        self.assertEqual((len(steps), steps[-1][0]), (42, (60, registers(r1=40), True, -1)))
