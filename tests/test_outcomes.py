"""All outcomes: [120] to [124]."""

import random

from litmuscore.errors import TooManySituations
from litmuscore.executions import check, outcome
from litmuscore.history import after_move, final_outcome, first_situation, is_final
from litmuscore.outcomes import explore, outcomes_of, tried_moves
from tests.helpers import ORDERS, PLAIN, STORE_BUFFERING, Case, Machine, effect, read, stepped, together
from tests.small import COHERENCE, LINKED, MESSAGE, PROGRAMS, valid_executions
from tests.walks import random_program

ONE = ("addi", 1, 0, 1)
LOAD = ("load", 2, 0, 0)
STORE = ("store", 1, 0, 0)
LINK = ("load linked", 2, 0)
CONDITIONAL = ("store conditional", 3, 0, 1)
BUFFERED = ("tso", "pso", "wmm")
INTERNAL = (ONE, ("add", 1, 1, 1), ("jump", 24), ("branch", "eq", 0, 0, 0), ("fence", "slot"), ("fence", "loads"),
            ("halt",), ("load", 1, 0, 9), ("store", 1, 0, 9))


class TriedMovesTest(Machine):
    def tries(self, *moves):
        self.expect(tuple(moves), tried_moves, self.program, self.order, self.now)

    def test_the_internal_next_step_of_one_core(self):
        for order in ORDERS:
            for instruction in INTERNAL:
                self.begin(together((STORE, STORE), (instruction,), memory=(0,)), order)
                self.tries(stepped(1))
                self.go(stepped(0))
                # An effect is possible, but it is not tried before the internal step.
                self.assertIsNotNone(self.after(effect(0)))
                self.tries(stepped(1))

    def test_the_internal_next_steps_of_several_cores(self):
        for order in ORDERS:
            self.begin(together((STORE,), (ONE, ONE), (ONE,), memory=(0,)), order)
            for core in (1, 1, 1, 2, 2):
                self.tries(stepped(core))
                self.go(stepped(core))
            self.tries(stepped(0))

    def test_steps_outside_of_the_code_and_of_memory_are_internal(self):
        for order in ORDERS:
            self.begin(((STORE,), (0, 24, 1), (0,)), order)
            self.tries(stepped(1))
            self.go(stepped(1))
            self.tries(stepped(2))
            for instruction in (("load", 1, 0, 1), ("store", 1, 0, 1), ("load linked", 1, 2), ("swap", 1, 2, 0),
                                ("store conditional", 1, 2, 0)):
                self.begin(together((STORE,), (("addi", 2, 0, 1), instruction), memory=(0,)), order)
                self.go(stepped(1))
                self.tries(stepped(1))

    def test_a_core_that_has_halted_has_no_step(self):
        for order in ORDERS:
            self.begin(together((STORE,), (ONE,), (STORE,), memory=(0,)), order)
            self.go(stepped(0), stepped(0))
            self.tries(stepped(1))
            self.go(stepped(1), stepped(1))
            self.tries(stepped(2), effect(0))
            self.go(effect(0), stepped(2), stepped(2), effect(2))
            self.tries()

    def test_fences(self):
        for order in ORDERS:
            for kind in ("slot", "loads"):
                self.begin(together((("fence", kind),), (LOAD,), memory=(0,)), order)
                self.tries(stepped(0))
            for kind in ("stores", "full"):
                self.begin(together((("fence", kind),), (LOAD,), memory=(0,)), order)
                self.tries(stepped(0), read(1, 0))
                self.begin(together((("fence", kind),), (ONE,), memory=(0,)), order)
                self.tries(stepped(1))
                self.begin(together((STORE, ("fence", kind)), (LOAD,), memory=(0,)), order)
                self.go(stepped(0))
                self.tries(*([stepped(0)] if kind == "stores" else []), read(1, 0), effect(0))

    def test_stores(self):
        for order in ORDERS:
            self.begin(together((STORE, STORE), (STORE,), memory=(0,)), order)
            self.tries(stepped(0), stepped(1))
            self.go(stepped(0))
            self.tries(*([] if order == "sc" else [stepped(0)]), stepped(1), effect(0))

    def test_loads_now(self):
        for order in ("sc", "tso", "pso"):
            self.begin(together((("store", 0, 0, 1), STORE), (("store", 0, 0, 0), ("load", 2, 0, 1), LOAD),
                                memory=(7, 8)), order)
            self.go(stepped(0), effect(0))
            self.tries(stepped(0), stepped(1))
            self.go(stepped(1))
            if order == "sc":
                self.tries(stepped(0), effect(1))
                self.go(effect(1))
                self.tries(stepped(0), read(1, 0, 2))
            else:
                self.tries(stepped(0), read(1, 0, 1), effect(1))
                self.go(read(1, 0, 1))
                self.tries(stepped(0), read(1, 0, 1), effect(1))

    def test_a_word_from_the_buffer(self):
        for order in BUFFERED:
            self.begin(together((ONE, STORE, LOAD), (STORE,), memory=(7,)), order)
            self.go(stepped(0), stepped(0), stepped(1), effect(1))
            self.go(stepped(1))
            if order == "wmm":
                # Each time is tried, also where the word comes from the buffer.
                self.tries(read(0, 1, 0), read(0, 1, 1), effect(0))
            else:
                self.tries(read(0, 1, 1), effect(0))

    def test_swap_fetch_add_and_load_linked(self):
        for instruction in (("swap", 2, 0, 1), ("fetch add", 2, 0, 1), LINK):
            for order in ORDERS:
                self.begin(together((("store", 0, 0, 1), instruction), (ONE, STORE), memory=(7, 8)), order)
                self.go(stepped(1), stepped(1), stepped(1), stepped(0))
                self.tries(effect(0), effect(1))
                self.go(effect(0))
                self.tries(read(0, 7), effect(1))
                self.go(effect(1))
                self.tries(read(0, 1))

    def test_store_conditionals(self):
        fail, succeed = stepped(0), stepped(0, (0, True))
        for order in ORDERS:
            self.begin(together((LINK, ("store", 0, 0, 1), CONDITIONAL), (STORE,), memory=(7, 8)), order)
            self.go(read(0, 7), stepped(0))
            self.tries(stepped(1), effect(0))
            self.go(effect(0))
            self.tries(succeed, fail, stepped(1))
            self.go(stepped(1), stepped(1))
            self.tries(succeed, fail, effect(1))
            self.go(effect(1))
            self.tries(fail)
            self.go(fail, stepped(0))
            self.tries()
            self.begin(together((CONDITIONAL, ("load linked", 2, 0), ("store conditional", 3, 1, 1)), memory=(7,)),
                       order)
            self.tries(fail)
            self.begin(together((("addi", 1, 0, 1), ("load linked", 2, 1), CONDITIONAL), memory=(7, 8)), order)
            self.go(stepped(0), read(0, 8))
            self.tries(fail)

    def test_effects_of_each_index(self):
        piece = (ONE, STORE, ("store", 1, 0, 1), ("store", 0, 0, 0), ("fence", "stores"), ("store", 1, 0, 2))
        for order in BUFFERED:
            self.begin(together(piece, (STORE,), memory=(0, 0, 0)), order)
            self.go(*[stepped(0)] * 7, stepped(1), stepped(1))
            if order == "tso":
                self.tries(effect(0), effect(1))
            else:
                self.tries(effect(0), effect(0, 1), effect(1))
                self.go(effect(0, 1))
                self.tries(effect(0), effect(1))
                self.go(effect(0), effect(0))
                self.tries(effect(0), effect(1))

    def test_steps_come_before_effects_and_cores_ascend(self):
        for order in BUFFERED:
            piece = (("store", 0, 0, 0), ("store", 0, 0, 1), ("swap", 2, 0, 0))
            self.begin(together(piece, piece[1:] + (LOAD,), (LOAD,), memory=(0, 0)), order)
            self.go(stepped(0), stepped(1))
            self.tries(stepped(0), read(2, 0), effect(0), effect(1))

    def test_the_example(self):
        self.begin(STORE_BUFFERING, "sc")
        self.tries(stepped(0))
        self.now = explore(STORE_BUFFERING, "sc")[2]
        self.tries(stepped(0), stepped(1))


class TriedTimesTest(Machine):
    # Core 0 stores 1, 2 and 3 to the address 0, and 1 to the address 1 after the first of them.
    writer = (ONE, STORE, ("store", 1, 0, 1), ("addi", 1, 1, 1), STORE, ("addi", 1, 1, 1), STORE)

    def written(self, *piece):
        self.begin(together(self.writer, piece, memory=(7, 8)), "wmm")
        for instruction in self.writer:
            self.go(stepped(0))
            if instruction[0] == "store":
                self.go(effect(0))
        self.go(stepped(0))
        self.assertEqual(self.history(), ((0, 0, 1), (0, 1, 1), (0, 0, 2), (0, 0, 3)))

    def tries(self, *pairs):
        self.expect(tuple(read(1, word, time) for time, word in pairs), tried_moves, self.program, "wmm", self.now)

    def test_the_start_and_each_entry_for_the_address(self):
        self.written(LOAD)
        self.tries((0, 7), (1, 1), (3, 2), (4, 3))
        self.written(("load", 2, 0, 1))
        self.tries((0, 8), (2, 1))

    def test_from_the_time_at_which_the_address_is_seen(self):
        for time, word, pairs in ((0, 7, ((0, 7), (1, 1), (3, 2), (4, 3))), (1, 1, ((1, 1), (3, 2), (4, 3))),
                                  (2, 1, ((2, 1), (3, 2), (4, 3))), (3, 2, ((3, 2), (4, 3))), (4, 3, ((4, 3),))):
            self.written(LOAD, LOAD)
            self.go(read(1, word, time))
            self.tries(*pairs)
            # That the one address is seen does not matter for the other one.
            self.written(LOAD, ("load", 2, 0, 1))
            self.go(read(1, word, time))
            self.tries((0, 8), (2, 1))

    def test_from_floor(self):
        for time, word, pairs in ((0, 8, ((0, 7), (1, 1), (3, 2), (4, 3))), (1, 8, ((1, 1), (3, 2), (4, 3))),
                                  (2, 1, ((2, 1), (3, 2), (4, 3))), (3, 1, ((3, 2), (4, 3))), (4, 1, ((4, 3),))):
            self.written(("load", 2, 0, 1), ("fence", "loads"), LOAD)
            self.go(read(1, word, time), stepped(1))
            self.tries(*pairs)

    def test_from_the_greater_one_of_both(self):
        self.written(("load", 2, 0, 1), ("fence", "loads"), LOAD, ("load", 2, 0, 1), LOAD)
        self.go(read(1, 8, 1), stepped(1), read(1, 2, 3))
        self.tries((1, 8), (2, 1))
        self.go(read(1, 1, 2))
        self.tries((3, 2), (4, 3))

    def test_words_from_the_buffer_and_own_entries(self):
        self.written(("addi", 1, 0, 9), STORE, LOAD, LOAD)
        self.go(stepped(1), stepped(1))
        moves = [read(1, 9, time) for time in (0, 1, 3, 4)]
        self.expect((*moves, effect(1)), tried_moves, self.program, "wmm", self.now)
        self.go(effect(1))
        self.tries((0, 9), (1, 9), (3, 9), (4, 9), (5, 9))
        self.go(read(1, 9, 4))
        self.tries((4, 9), (5, 9))


class ExploreTest(Case):
    def slowly(self, program, order):
        """The situations in the order in which the document finds them."""
        found = [first_situation(program)]
        for situation in found:
            for move in tried_moves(program, order, situation):
                after = after_move(program, order, situation, move)
                if after not in found:
                    found.append(after)
        return tuple(found)

    def test_the_order_in_which_situations_are_found(self):
        for program in PROGRAMS:
            for order in ORDERS:
                self.assertEqual(self.call(explore, program, order), self.slowly(program, order))

    def test_a_small_exploration_step_by_step(self):
        program = together((STORE,), (LOAD,), memory=(5,))
        stored, loaded = (stepped(0), stepped(0)), (read(1, 5), stepped(1))
        paths = ((), stored[:1], loaded[:1], stored, loaded, stored + loaded[:1], stored + (effect(0),),
                 loaded + stored[:1], stored + loaded, stored + (effect(0), read(1, 0, 1)),
                 stored + loaded + (effect(0),), stored + (effect(0), read(1, 0, 1), stepped(1)))
        situations = []
        for path in paths:
            situation = first_situation(program)
            for move in path:
                situation = after_move(program, "tso", situation, move)
            situations.append(situation)
        self.expect(tuple(situations), explore, program, "tso")

    def test_equal_situations_are_found_once(self):
        # Three cores load the same word; the order of the loads does not matter.
        program = together((LOAD,), (LOAD,), (LOAD,), memory=(5,))
        found = self.call(explore, program, "sc")
        self.assertEqual(len(set(found)), len(found))
        # After each load the core halts at once: so each core has loaded or not, and one of them has not halted yet.
        self.assertEqual(len(found), 8 + 12)
        self.assertEqual(self.call(explore, ((("jump", 0),), (0,), (0,)), "wmm"),
                         (first_situation(((("jump", 0),), (0,), (0,))),))

    def test_the_limit(self):
        for program in PROGRAMS:
            for order in ORDERS:
                found = explore(program, order)
                self.expect(found, explore, program, order, limit=len(found))
                pairs = self.call(outcomes_of, program, order, limit=len(found))
                self.assertEqual(pairs, outcomes_of(program, order))
                for limit in (len(found) - 1, 2, 1):
                    self.refuse(TooManySituations, {"limit": limit}, explore, program, order, limit=limit)
                    self.refuse(TooManySituations, {"limit": limit}, outcomes_of, program, order, limit=limit)

    def test_the_limit_if_nobody_tells_it(self):
        # The history of this program grows without an end.
        program = ((("fetch add", 0, 0, 0), ("jump", 0)), (0,), (0,))
        for order in ORDERS:
            self.refuse(TooManySituations, {"limit": 2000}, explore, program, order)
            self.refuse(TooManySituations, {"limit": 2000}, outcomes_of, program, order)
            self.refuse(TooManySituations, {"limit": 4000}, explore, program, order, limit=4000)

    def test_a_program_with_as_many_situations_as_its_steps(self):
        for many in (1, 2, 24):
            program = ((ONE,) * many, (0,), (0,))
            self.assertEqual(len(explore(program, "sc", limit=many + 2)), many + 2)
            self.refuse(TooManySituations, {"limit": many + 1}, explore, program, "sc", limit=many + 1)


class OutcomesTest(Case):
    def in_order(self, pairs):
        """The outcomes ascend, place by place, and each one is there once."""
        flat = [[number for pc, registers, _, link in states for number in (pc, *registers, link)] + list(memory)
                for (states, memory), _ in pairs]
        self.assertEqual(flat, sorted(flat))
        self.assertEqual(len({tuple(row) for row in flat}), len(flat))

    def agrees(self, program, order, limit=2000):
        pairs = self.call(outcomes_of, program, order, limit=limit)
        self.in_order(pairs)
        for result, execution in pairs:
            self.assertIsNone(check(program, order, execution), (program, order, execution))
            self.assertEqual(outcome(program, order, execution), result)
        found = explore(program, order, limit=limit)
        self.assertEqual({result for result, _ in pairs},
                         {final_outcome(program, situation) for situation in found if is_final(situation)})
        return pairs

    def test_the_outcomes_are_those_of_all_valid_executions(self):
        for program in PROGRAMS:
            for order in ORDERS:
                outcomes = {outcome(program, order, execution) for execution in valid_executions(program, order)}
                self.assertEqual({result for result, _ in self.agrees(program, order)}, outcomes)

    def test_random_programs(self):
        draw = random.Random(4)
        for _ in range(25):
            program = random_program(draw, size=draw.randrange(3, 6))
            stronger = set()
            for order in ORDERS:
                weaker = {result for result, _ in self.agrees(program, order, limit=4000)}
                self.assertLessEqual(stronger, weaker)
                stronger = weaker

    def test_words_that_are_read(self):
        for order, words in (("sc", ((0, 1), (1, 0), (1, 1))), ("tso", ((0, 0), (0, 1), (1, 0), (1, 1)))):
            pairs = self.call(outcomes_of, STORE_BUFFERING, order)
            self.assertEqual(tuple(tuple(state[1][2] for state in states) for (states, _), _ in pairs), words)
            self.assertEqual({memory for (_, memory), _ in pairs}, {(1, 1)})
        for order, words in (("tso", ((0, 0), (0, 1), (1, 1))), ("pso", ((0, 0), (0, 1), (1, 0), (1, 1)))):
            pairs = self.call(outcomes_of, MESSAGE, order)
            self.assertEqual(tuple(states[1][1][1:3] for (states, _), _ in pairs), words)
        for order in ORDERS:
            pairs = self.call(outcomes_of, COHERENCE, order)
            self.assertEqual(tuple(states[0][1][1:3] for (states, _), _ in pairs), ((0, 0), (1, 0), (1, 1)))

    def test_outcomes_that_differ_in_code_address_and_link(self):
        piece = (("load", 1, 0, 0), ("branch", "eq", 1, 0, 5), ("addi", 1, 0, 0), ("load linked", 0, 1), ("halt",),
                 ("halt",), ONE, STORE)
        program = (piece, (0, 6), (0,))
        for order in ORDERS:
            pairs = self.agrees(program, order)
            self.assertEqual([(states[0][0], states[0][3]) for (states, _), _ in pairs], [(4, 0), (5, -1)])

    def test_outcomes_that_differ_in_the_link_alone(self):
        # The core stores conditionally only if it has read 1; then it forgets what it has read.
        piece = (LINK, ("branch", "eq", 2, 0, 3), ("store conditional", 2, 0, 2), ("addi", 2, 0, 0), ("halt",),
                 ONE, STORE)
        program = (piece, (0, 5), (0,))
        for order in ORDERS:
            pairs = self.agrees(program, order)
            self.assertEqual([states[0][3] for (states, _), _ in pairs], [-1, 0])

    def test_outcomes_that_differ_in_memory_alone(self):
        program = together((ONE, STORE), (("addi", 1, 0, 2), STORE), memory=(0,))
        for order in ORDERS:
            self.assertEqual([memory for (_, memory), _ in self.agrees(program, order)], [(1,), (2,)])

    def test_conditionals_may_fail_without_a_reason(self):
        for order in ORDERS:
            pairs = self.call(outcomes_of, LINKED, order)
            self.assertEqual({states[0][1][3] for (states, _), _ in pairs}, {0, 1})

    def test_programs_without_a_final_situation(self):
        for order in ORDERS:
            for code in ((("jump", 0),), (LOAD, ("branch", "eq", 2, 2, 0)), (("fence", "full"), ("jump", 0))):
                self.expect((), outcomes_of, (code, (0,), (0,)), order)
            # Core 1 never halts, and core 0 does.
            self.expect((), outcomes_of, ((("halt",), ("jump", 1)), (0, 1), (0,)), order)

    def test_a_program_with_one_outcome(self):
        for order in ORDERS:
            state = (0, (0,) * 8, True, -1)
            self.expect(((((state,), (3, 4)), (((PLAIN,),), ())),), outcomes_of, ((), (0,), (3, 4)), order)

    def test_the_example(self):
        found = self.call(explore, STORE_BUFFERING, "sc")
        self.assertEqual(found[0], first_situation(STORE_BUFFERING))
        self.assertEqual([view[0][0] for view in found[2][1]], [1, 5])
