"""The service: [260] to [263]."""

import random

from litmuscore.executions import check, outcome
from litmuscore.machine import after_action, is_finished, machine_outcome, reported, start_machine
from litmuscore.network import deliverable
from litmuscore.service import next_action, obtain, run_to_end, serve
from tests.flights import program_of
from tests.helpers import ORDERS, STORE_BUFFERING, Case, registers, together
from tests.machines import MachineCase
from tests.small import PROGRAMS
from tests.walks import Walk, random_config, random_program

ONE = ("addi", 1, 0, 1)
STRONG = ("sc", "tso", "pso")
NOTHING = ((), (0, 0, 0), (1, 2, 3, 4, 5, 6))


class ObtainTest(MachineCase):
    def obtains(self, action, core, line, exclusive):
        self.expect(action, obtain, self.config, self.machine, core, line, exclusive)

    def test_a_line_that_is_present(self):
        self.begin(NOTHING, ways=1, exclusive_state=False)
        for core, exclusive in ((0, False), (1, True)):
            self.gain(core, core, exclusive)
        for exclusive in (False, True):
            self.obtains(None, 1, 1, exclusive)
        self.obtains(None, 0, 0, False)
        # Shared, but wanted for writing: the set is full, and nothing is evicted for it.
        self.obtains(("request", 0, 0, True), 0, 0, True)

    def test_a_line_that_is_exclusive(self):
        self.begin(NOTHING, ways=1)
        self.gain(0, 2, False)
        self.assertEqual(self.cache(0)[0], ((2, "exclusive", (3,)),))
        for exclusive in (False, True):
            self.obtains(None, 0, 2, exclusive)

    def test_a_line_that_is_not_present(self):
        self.begin(NOTHING, sets=2, ways=2)
        for exclusive in (False, True):
            self.obtains(("request", 0, 4, exclusive), 0, 4, exclusive)
        self.gain(0, 4)
        self.gain(0, 3)
        self.gain(0, 5)
        # Two lines of the set 1 are present, and one of the set 0.
        for exclusive in (False, True):
            self.obtains(("request", 0, 0, exclusive), 0, 0, exclusive)
            self.obtains(("request", 1, 1, exclusive), 1, 1, exclusive)
            self.obtains(("evict", 0, 3), 0, 1, exclusive)

    def test_the_first_line_of_the_set_in_the_order_of_the_cache(self):
        self.begin(NOTHING, sets=2, ways=2)
        for line in (5, 4, 3):
            self.gain(0, line)
        self.obtains(("evict", 0, 5), 0, 1, False)
        self.go(("evict", 0, 5))
        self.settle()
        self.gain(0, 5)
        self.obtains(("evict", 0, 3), 0, 1, True)

    def test_what_is_requested_occupies_a_way(self):
        self.begin(NOTHING, ways=2, requests=3)
        self.gain(0, 4)
        self.go(("request", 0, 1, True))
        self.obtains(("evict", 0, 4), 0, 2, False)
        self.obtains(("evict", 0, 4), 0, 1, False)
        self.obtains(None, 0, 4, True)
        self.settle()
        self.obtains(("evict", 0, 4), 0, 2, False)
        self.begin(NOTHING, ways=1, requests=3)
        self.go(("request", 0, 1, True))
        # The only way is occupied, and no line of the set is present.
        for line in (1, 2):
            self.obtains(None, 0, line, True)
        self.obtains(("request", 1, 1, True), 1, 1, True)

    def test_with_messages_in_flight_the_action_need_not_be_possible(self):
        self.begin(NOTHING, ways=4, requests=1)
        self.go(("request", 0, 1, False))
        self.obtains(("request", 0, 1, True), 0, 1, True)
        self.obtains(("request", 0, 2, False), 0, 2, False)
        self.bars(("request", 0, 1, True), ("request", 0, 2, False))
        self.settle()
        self.go(("evict", 0, 1))
        self.obtains(("request", 0, 1, False), 0, 1, False)
        self.bars(("request", 0, 1, False))
        self.settle()
        self.go(("request", 0, 1, False))

    def test_without_messages_in_flight_the_action_is_possible(self):
        draw = random.Random(21)
        for seed in range(40):
            walk = Walk(random_program(draw, words=5), random_config(draw, ORDERS[seed % 4]), seed)
            walk.walk(150)
            while deliverable(walk.system):
                walk.perform(("deliver", deliverable(walk.system)[0]))
            machine = walk.machine()
            for core in walk.cores:
                for line in range(len(walk.system[1])):
                    for exclusive in (False, True):
                        action = self.call(obtain, walk.config, machine, core, line, exclusive)
                        if action is not None:
                            self.assertIsNotNone(after_action(walk.program, walk.config, machine, action))
                            continue
                        present = {row[0]: row[1] for row in walk.system[0][core][0]}
                        self.assertIn(line, present)
                        self.assertFalse(exclusive and present[line] == "shared")


class NextActionTest(MachineCase):
    def next(self, action, core=0):
        self.expect(action, next_action, self.program, self.config, self.machine, core)

    def test_a_delivery_comes_first(self):
        self.begin(NOTHING, requests=2)
        self.gain(0, 0)
        self.go(("evict", 0, 0), ("request", 1, 0, True), ("request", 2, 0, True), ("deliver", 1))
        # The home serves a request: it can receive neither what is given up nor another request.
        self.assertEqual([message[0] for message in self.network()], ["give up", "get modified", "recall"])
        for core in range(3):
            self.next(("deliver", 2), core)
        self.go(("deliver", 2))
        self.next(("deliver", 2))
        self.go(("deliver", 2), ("deliver", 2), ("deliver", 2))
        self.next(("deliver", 0))

    def test_a_core_that_has_halted(self):
        for order in ORDERS:
            self.begin(program_of(("store", 0, 0, 1)), order)
            self.take(0)
            if order == "sc":
                # Under "sc" the core cannot halt before the store has left.
                continue
            self.take(0)
            self.next(("request", 0, 1, True))
            self.gain(0, 1, False)
            self.next(("drain", 0, 0))
            self.go(("drain", 0, 0))
            self.next(None)

    def test_under_sc_a_store_that_waits(self):
        self.begin(program_of(("store", 0, 0, 1), ONE), exclusive_state=False)
        self.take(0)
        self.next(("fetch", 0, None, None))
        self.begin(self.program, "sc", exclusive_state=False)
        self.take(0)
        self.next(("request", 0, 1, True))
        self.fetch(0)
        self.next(("request", 0, 1, True))
        self.gain(0, 1, False)
        self.next(("request", 0, 1, True))
        self.gain(0, 1, True)
        self.next(("drain", 0, 0))
        self.go(("drain", 0, 0))
        self.next(("execute", 0, 0))

    def test_the_drain_step_makes_room(self):
        self.begin(program_of(("load", 0, 0, 0), ("store", 0, 0, 1)), ways=1, exclusive_state=False)
        self.gain(0, 0, False)
        self.take(0, load=True)
        self.take(0)
        self.take(0)
        self.next(("evict", 0, 0))

    def test_the_drain_step_takes_the_first_store(self):
        for order in ("tso", "pso", "wmm"):
            self.begin(program_of(("store", 0, 0, 1), ("fence", "stores"), ("store", 0, 0, 2)), order)
            for _ in range(4):
                self.take(0)
            self.assertEqual([part[0] for part in self.buffer(0)], ["store", "fence", "store"])
            self.next(("request", 0, 1, True))
            self.gain(0, 1)
            self.gain(0, 2)
            self.next(("drain", 0, 0))
            self.go(("drain", 0, 0))
            self.next(("drain", 0, 0))
            self.assertEqual(self.buffer(0), (("store", 2, 0, 2),))

    def test_nothing_in_flight(self):
        for order in ORDERS:
            self.begin(STORE_BUFFERING, order)
            self.next(("fetch", 0, None, None), 0)
            self.next(("fetch", 1, None, None), 1)

    def test_steps_that_halt(self):
        for order in ORDERS:
            self.begin(program_of(("load", 1, 0, 3)), order)
            self.fetch(0)
            self.next(("resolve", 0, 0))
            self.go(("resolve", 0, 0))
            self.next(("commit", 0))
            self.begin(program_of(), order)
            self.fetch(0)
            self.next(("commit", 0))
            self.begin(program_of(("halt",)), order)
            self.fetch(0)
            self.next(("commit", 0))

    def test_memory_instructions_outside_with_a_store_that_waits(self):
        # They come before the cases of stores and atomic instructions, which would drain.
        for last in (("store", 0, 0, 3), ("swap", 1, 2, 0), ("store conditional", 1, 2, 0)):
            self.begin(program_of(("addi", 2, 0, 3), ("store", 0, 0, 0), last), "tso", store_buffer=1)
            for _ in range(2):
                self.take(0)
            self.fetch(0)
            self.next(("resolve", 0, 0))
            self.go(("resolve", 0, 0))
            self.next(("commit", 0))

    def test_a_load_that_is_not_ready(self):
        for order in ORDERS:
            self.begin(program_of(("load", 1, 0, 2)), order, exclusive_state=False)
            self.fetch(0)
            self.next(("resolve", 0, 0))
            self.go(("resolve", 0, 0))
            self.next(("request", 0, 2, False))
            self.gain(0, 2, False)
            self.next(("load", 0, 0))
            self.go(("load", 0, 0))
            self.next(("commit", 0))

    def test_a_load_that_finds_its_word_in_the_store_buffer(self):
        for order in ("tso", "pso", "wmm"):
            self.begin(program_of(("store", 0, 0, 2), ("load", 1, 0, 2)), order)
            self.take(0)
            self.fetch(0)
            self.go(("resolve", 0, 0))
            self.next(("load", 0, 0))
            self.go(("load", 0, 0))
            self.next(("commit", 0))

    def test_a_load_that_needs_a_way(self):
        self.begin(program_of(("load", 1, 0, 2)), ways=1)
        self.gain(0, 1)
        self.fetch(0)
        self.go(("resolve", 0, 0))
        self.next(("evict", 0, 1))

    def test_a_load_that_is_ready_and_has_lost_its_line(self):
        for order in ORDERS:
            self.begin(program_of(("load", 1, 0, 2)), order)
            self.gain(0, 2, False)
            self.fetch(0)
            self.go(("resolve", 0, 0), ("load", 0, 0), ("evict", 0, 2))
            self.settle()
            self.next(("commit", 0) if order == "wmm" else ("request", 0, 2, False))

    def test_a_stale_load_is_committed(self):
        for order in STRONG:
            self.begin(together((("load", 2, 0, 0),), (ONE, ("swap", 2, 0, 1)), memory=(0,)), order)
            self.gain(0, 0, False)
            self.fetch(0)
            self.go(("resolve", 0, 0), ("load", 0, 0))
            self.take(1)
            self.gain(1)
            self.take(1)
            self.next(("request", 0, 0, False))
            self.gain(0, 0, False)
            self.next(("commit", 0))
            machine, actions = self.call(serve, self.program, self.config, self.machine, 0)
            # The first commit finds the stale load, and the service goes on.
            self.assertEqual(actions, (("commit", 0), ("fetch", 0, None, None), ("resolve", 0, 0), ("load", 0, 0),
                                       ("commit", 0)))
            self.assertEqual(machine[3][0], ((1, False),))

    def test_a_store(self):
        code = (("store", 0, 0, 0), ("store", 0, 0, 1), ("store", 0, 0, 2))
        for order in ("tso", "pso", "wmm"):
            for room in (1, 2):
                self.begin(program_of(*code), order, store_buffer=room)
                for _ in range(room):
                    self.fetch(0)
                    self.next(("resolve", 0, 0))
                    self.go(("resolve", 0, 0))
                    self.next(("commit", 0))
                    self.go(("commit", 0))
                self.fetch(0)
                self.go(("resolve", 0, 0))
                self.next(("request", 0, 0, True))
                self.gain(0)
                self.next(("drain", 0, 0))
                self.go(("drain", 0, 0))
                self.next(("commit", 0))

    def test_fences_in_the_buffer_are_no_stores(self):
        self.begin(program_of(("store", 0, 0, 0), ("fence", "stores"), ("store", 0, 0, 1)), "pso")
        for _ in range(2):
            self.take(0)
        self.fetch(0)
        self.go(("resolve", 0, 0))
        self.next(("commit", 0))

    def test_atomic_instructions_with_a_store_that_waits(self):
        for order in ("tso", "pso", "wmm"):
            for instruction in (("swap", 1, 0, 0), ("fetch add", 1, 0, 0), ("load linked", 1, 0),
                                ("store conditional", 1, 0, 0)):
                self.begin(program_of(("store", 0, 0, 2), instruction), order)
                self.take(0)
                self.fetch(0)
                self.next(("resolve", 0, 0))
                self.go(("resolve", 0, 0))
                self.next(("request", 0, 2, True))
                self.gain(0, 2)
                self.next(("drain", 0, 0))

    def test_swap_fetch_add_and_load_linked(self):
        for order in ORDERS:
            for instruction, exclusive in ((("swap", 1, 0, 0), True), (("fetch add", 1, 0, 0), True),
                                           (("load linked", 1, 0), False)):
                self.begin(program_of(instruction), order, exclusive_state=False)
                self.fetch(0)
                self.go(("resolve", 0, 0))
                self.next(("request", 0, 0, exclusive))
                self.gain(0, 0, False)
                self.next(("request", 0, 0, True) if exclusive else ("commit", 0))
                if exclusive:
                    self.gain(0, 0, True)
                    self.next(("commit", 0))

    def test_store_conditionals(self):
        code = (("load linked", 1, 2), ("store conditional", 1, 0, 0), ("store conditional", 1, 0, 0))
        for order in ORDERS:
            for linked in (0, 1):
                self.begin(program_of(("addi", 2, 0, linked), *code), order, exclusive_state=False)
                self.take(0)
                self.gain(0, linked, False)
                self.take(0)
                self.fetch(0)
                self.go(("resolve", 0, 0))
                # Only if the link is the address, the line is needed for writing.
                self.next(("request", 0, 0, True) if linked == 0 else ("commit", 0))
                if linked == 0:
                    self.gain(0)
                    self.next(("commit", 0))
                self.go(("commit", 0))
                self.assertEqual(self.choices()[0][-1], (0, linked == 0))
                self.fetch(0)
                self.go(("resolve", 0, 0))
                self.next(("commit", 0))

    def test_a_store_conditional_without_its_reservation(self):
        self.begin(program_of(("load linked", 1, 0), ("store conditional", 1, 0, 0)))
        self.gain(0)
        self.take(0)
        self.go(("evict", 0, 0))
        self.settle()
        self.fetch(0)
        self.go(("resolve", 0, 0))
        self.next(("commit", 0))

    def test_operations_addi_branches_and_jumps(self):
        for order in ORDERS:
            for instruction in (ONE, ("sub", 1, 2, 3), ("branch", "eq", 0, 0, 0), ("jump", 0)):
                self.begin(program_of(instruction), order)
                self.fetch(0)
                self.next(("execute", 0, 0))
                self.go(("execute", 0, 0))
                self.next(("commit", 0))

    def test_fences(self):
        for order in ORDERS:
            for kind in ("loads", "stores", "full", "slot"):
                self.begin(program_of(("fence", kind)), order)
                self.fetch(0)
                self.next(("commit", 0))
                if order == "sc":
                    continue
                self.begin(program_of(("store", 0, 0, 0), ("fence", kind)), order)
                self.take(0)
                self.fetch(0)
                self.next(("request", 0, 0, True) if kind == "full" else ("commit", 0))
                self.gain(0)
                self.next(("drain", 0, 0) if kind == "full" else ("commit", 0))
                self.go(("drain", 0, 0))
                self.next(("commit", 0))

    def test_only_the_oldest_entry_counts(self):
        self.begin(program_of(("fence", "loads"), ONE, ("store", 1, 0, 0)))
        self.fetch(0, 3)
        self.next(("commit", 0))
        self.go(("commit", 0))
        self.next(("execute", 0, 0))
        self.go(("execute", 0, 0), ("commit", 0))
        self.next(("resolve", 0, 0))


class ServeTest(MachineCase):
    def serves(self, actions, core=0, **more):
        """The service performs these actions, which lead to its machine."""
        machine, performed = self.call(serve, self.program, self.config, self.machine, core, **more)
        self.assertEqual(performed, actions)
        self.go(*performed)
        self.assertEqual(repr(machine), repr(self.machine))

    def test_until_a_step_is_committed(self):
        self.begin(program_of(ONE, ("store", 1, 0, 0), ("load", 2, 0, 1), ("swap", 3, 1, 1)), "tso")
        self.serves((("fetch", 0, None, None), ("execute", 0, 0), ("commit", 0)))
        self.serves((("fetch", 0, None, None), ("resolve", 0, 0), ("commit", 0)))
        gain = (("request", 0, 1, False), ("deliver", 0), ("deliver", 0), ("deliver", 0))
        self.serves((("fetch", 0, None, None), ("resolve", 0, 0), *gain, ("load", 0, 0), ("commit", 0)))
        self.assertEqual(self.pipeline(0)[4], 3)
        drain = (("request", 0, 0, True), ("deliver", 0), ("deliver", 0), ("deliver", 0), ("drain", 0, 0))
        self.serves((("fetch", 0, None, None), ("resolve", 0, 0), *drain, ("commit", 0)))
        self.assertEqual(self.state(0)[1], registers(r1=1))
        self.serves((("fetch", 0, None, None), ("commit", 0)))
        self.assertTrue(self.state(0)[2])
        self.serves(())

    def test_until_nothing_waits_behind_a_core_that_has_halted(self):
        self.begin(program_of(("store", 0, 0, 0), ("store", 0, 0, 1)), "pso")
        self.serves((("fetch", 0, None, None), ("resolve", 0, 0), ("commit", 0)))
        self.serves((("fetch", 0, None, None), ("resolve", 0, 0), ("commit", 0)))
        self.serves((("fetch", 0, None, None), ("commit", 0)))
        self.assertEqual(len(self.buffer(0)), 2)
        deliver = (("deliver", 0),) * 3
        self.serves((("request", 0, 0, True), *deliver, ("drain", 0, 0), ("request", 0, 1, True), *deliver,
                     ("drain", 0, 0)))
        self.serves(())

    def test_at_the_start_nothing_is_left_to_do(self):
        self.begin(((), (0, 0), (0,)), "wmm")
        self.take(0)
        self.go(("request", 1, 0, True))
        # Not even the message is delivered.
        self.serves(())
        self.serves((("deliver", 0), ("deliver", 0), ("deliver", 0), ("fetch", 1, None, None), ("commit", 1)), 1)

    def test_most(self):
        self.begin(program_of(("load", 1, 0, 0)))
        self.serves((), most=0)
        self.serves((("fetch", 0, None, None),), most=1)
        self.serves((("resolve", 0, 0), ("request", 0, 0, False)), most=2)
        self.serves((("deliver", 0), ("deliver", 0), ("deliver", 0), ("load", 0, 0)), most=4)
        self.serves((("commit", 0),), most=5)

    def test_deliveries_for_other_cores_are_performed_as_well(self):
        self.begin(NOTHING, requests=2)
        self.gain(1, 0)
        self.go(("request", 0, 0, True), ("deliver", 0))
        self.serves((("deliver", 0), ("deliver", 0), ("deliver", 0), ("deliver", 0), ("fetch", 0, None, None),
                     ("commit", 0)))

    def test_without_a_next_action(self):
        # With sizes below the bounds a core can come to a place from which it does not get on.
        self.begin(program_of(("store", 0, 0, 0)), store_buffer=0)
        self.serves((("fetch", 0, None, None), ("resolve", 0, 0)))
        self.expect(None, next_action, self.program, self.config, self.machine, 0)
        self.serves(())
        self.begin(program_of(("load", 1, 0, 0)), ways=0)
        self.serves((("fetch", 0, None, None), ("resolve", 0, 0)))
        self.expect(None, next_action, self.program, self.config, self.machine, 0)
        self.expect((self.machine, ()), run_to_end, self.program, self.config, self.machine)

    def test_with_a_next_action_that_is_not_possible(self):
        self.begin(program_of(ONE), reorder_buffer=0)
        self.expect(("fetch", 0, None, None), next_action, self.program, self.config, self.machine, 0)
        self.serves(())
        self.begin(program_of(("load", 1, 0, 0)), requests=0)
        self.serves((("fetch", 0, None, None), ("resolve", 0, 0)))
        self.expect(("request", 0, 0, False), next_action, self.program, self.config, self.machine, 0)
        self.serves(())
        for order in ("tso", "sc"):
            self.begin(program_of(("store", 0, 0, 0)), order, ways=0)
            self.serves((("fetch", 0, None, None), ("resolve", 0, 0), ("commit", 0)))
            self.serves(() if order == "sc" else (("fetch", 0, None, None), ("commit", 0)))
            self.expect(("drain", 0, 0), next_action, self.program, self.config, self.machine, 0)
            self.serves(())
        self.begin(program_of(("swap", 1, 0, 0)), ways=0)
        self.serves((("fetch", 0, None, None), ("resolve", 0, 0)))
        self.expect(("commit", 0), next_action, self.program, self.config, self.machine, 0)
        self.serves(())

    def test_another_core_is_not_served(self):
        self.begin(STORE_BUFFERING)
        self.serves((("fetch", 1, None, None), ("execute", 1, 0), ("commit", 1)), 1)
        self.assertEqual((self.pipeline(0)[4], self.pipeline(1)[4]), (0, 1))

    def test_a_core_that_has_fetched_ahead(self):
        self.begin(program_of(("branch", "eq", 0, 0, 2), ONE, ("halt",)))
        self.fetch(0, 2)
        self.serves((("execute", 0, 0), ("commit", 0)))
        self.serves((("fetch", 0, None, None), ("commit", 0)))
        self.assertEqual(self.state(0)[:3], (2, registers(), True))

    def test_a_next_action_is_never_impossible_in_a_random_machine(self):
        draw = random.Random(31)
        for seed in range(40):
            walk = Walk(random_program(draw, cores=2, words=3), random_config(draw, ORDERS[seed % 4]), seed)
            walk.walk(draw.randrange(200))
            machine = walk.machine()
            for core in walk.cores:
                after, actions = self.call(serve, walk.program, walk.config, machine, core)
                steps = machine[1][core][4]
                state, _, buffer, _, committed = after[1][core]
                self.assertTrue(committed == steps + 1 or (state[2] and not buffer))
                for action in actions:
                    self.assertEqual(action, next_action(walk.program, walk.config, machine, core))
                    machine = after_action(walk.program, walk.config, machine, action)
                self.assertEqual(repr(machine), repr(after))


class RunToEndTest(MachineCase):
    def test_rounds(self):
        self.begin(STORE_BUFFERING)
        self.expect((self.machine, ()), run_to_end, self.program, self.config, self.machine, rounds=0)
        now, wanted = self.machine, ()
        for rounds in range(1, 9):
            for core in (0, 1):
                if not is_finished(now):
                    now, actions = serve(self.program, self.config, now, core)
                    wanted += actions
            self.expect((now, wanted), run_to_end, self.program, self.config, self.machine, rounds=rounds)
        self.assertTrue(is_finished(now))
        self.expect((now, wanted), run_to_end, self.program, self.config, self.machine)
        # A machine that is finished stays as it is.
        self.expect((now, ()), run_to_end, self.program, self.config, now)
        self.expect((now, ()), run_to_end, self.program, self.config, now, rounds=1)

    def test_finished_within_a_round(self):
        # After core 0 was served nothing is left to do, and core 1 would still deliver a message.
        self.begin(((("store", 0, 0, 0),), (1, 1), (0,)))
        self.go(("request", 0, 0, True))
        self.take(1)
        machine, actions = self.call(run_to_end, self.program, self.config, self.machine, rounds=1)
        self.assertEqual(actions, (("deliver", 0), ("deliver", 0), ("deliver", 0), ("fetch", 0, None, None),
                                   ("commit", 0)))
        self.assertTrue(is_finished(machine))
        self.begin(((("store", 0, 0, 0),), (0, 1), (0,)))
        self.go(("request", 0, 0, True), ("deliver", 0), ("deliver", 0))
        for core in (0, 0, 1):
            self.take(core)
        machine, actions = self.call(run_to_end, self.program, self.config, self.machine, rounds=1)
        self.assertEqual(actions, (("deliver", 0), ("drain", 0, 0)))

    def test_never_finished(self):
        self.begin(((("jump", 0),), (0, 1), (0,)), "wmm")
        machine, actions = self.call(run_to_end, self.program, self.config, self.machine)
        self.assertEqual([pipeline[4] for pipeline in machine[1]], [60, 1])
        self.assertEqual(actions, (("fetch", 0, None, None), ("execute", 0, 0), ("commit", 0), ("fetch", 1, None, None),
                                   ("commit", 1)) + (("fetch", 0, None, None), ("execute", 0, 0), ("commit", 0)) * 59)
        self.assertFalse(is_finished(machine))
        machine, actions = self.call(run_to_end, self.program, self.config, self.machine, rounds=100)
        self.assertEqual(machine[1][0][4], 100)

    def test_executions_and_outcomes(self):
        draw = random.Random(41)
        programs = list(PROGRAMS) + [random_program(draw, cores=draw.choice((1, 2, 3)), size=draw.randrange(2, 8),
                                                    words=draw.choice((1, 2, 3, 5))) for _ in range(40)]
        for program in programs:
            for order in ORDERS:
                config = random_config(draw, order)
                machine = start_machine(program, config)
                machine, actions = self.call(run_to_end, program, config, machine)
                self.assertTrue(is_finished(machine))
                execution = self.call(reported, machine)
                self.assertIsNone(check(program, order, execution), (program, vars(config)))
                self.assertEqual(self.call(machine_outcome, config, machine), outcome(program, order, execution))
                again = start_machine(program, config)
                for action in actions:
                    again = after_action(program, config, again, action)
                self.assertEqual(repr(again), repr(machine))

    def test_loops(self):
        # A spinlock: each core adds 1 to the word 1, three times, while it holds the word 0.
        code = (("addi", 1, 0, 1), ("addi", 5, 0, 3), ("load linked", 2, 0), ("branch", "ne", 2, 0, 2),
                ("store conditional", 3, 0, 1), ("branch", "ne", 3, 0, 2), ("fence", "loads"), ("load", 4, 0, 1),
                ("addi", 4, 4, 1), ("store", 4, 0, 1), ("fence", "stores"), ("store", 0, 0, 0), ("addi", 6, 6, 1),
                ("branch", "ne", 6, 5, 2))
        program = (code, (0, 0, 0), (0, 0))
        for order in ORDERS:
            for sizes in ({}, {"ways": 1}, {"line_words": 2}, {"sets": 2, "exclusive_state": False}):
                self.begin(program, order, **sizes)
                machine, _ = run_to_end(self.program, self.config, self.machine, rounds=2000)
                self.assertTrue(is_finished(machine))
                self.assertEqual(machine_outcome(self.config, machine)[1], (0, 9))
                self.assertIsNone(check(program, order, reported(machine)))


class ArgumentsTest(Case):
    def test_most_and_rounds_are_passed_by_keyword(self):
        with self.assertRaises(TypeError):
            serve(STORE_BUFFERING, None, None, 0, 1)
        with self.assertRaises(TypeError):
            run_to_end(STORE_BUFFERING, None, None, 1)
