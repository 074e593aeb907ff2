"""Machines: [240] to [245]."""

import random

from litmuscore.commits import keep_reservation
from litmuscore.configs import Config
from litmuscore.machine import after_action, is_finished, machine_outcome, possible_actions, reported, start_machine
from tests.flights import entry, program_of
from tests.helpers import ORDERS, PLAIN, STORE_BUFFERING, ZEROS, Case, registers, together
from tests.machines import KINDS, MachineCase
from tests.walks import Walk, random_config, random_program

STRONG = ("sc", "tso", "pso")
ONE = ("addi", 1, 0, 1)


class StartTest(Case):
    def test_the_start(self):
        view = ((), (), ())
        home = (None, (), None)
        for order in ORDERS:
            self.expect((0, (((0, ZEROS, False, -1), (), (), False, 0), ((4, ZEROS, False, -1), (), (), False, 0)),
                         ((view, view), (home, home), (0, 0), ()), ((), ()), ()),
                        start_machine, STORE_BUFFERING, Config(order))

    def test_the_lines(self):
        program = ((), (24, 3, 3), (5, 6, 7, 8, 9))
        for line_words, lines in ((1, 5), (2, 3), (4, 2), (16, 1)):
            time, pipelines, system, choices, marks = self.call(
                start_machine, program, Config("wmm", line_words=line_words))
            self.assertEqual((time, choices, marks), (0, ((), (), ()), ()))
            self.assertEqual([pipeline[0][0] for pipeline in pipelines], [24, 3, 3])
            self.assertEqual(system, ((((), (), ()),) * 3, ((None, (), None),) * lines, (5, 6, 7, 8, 9), ()))


class ActionsTest(MachineCase):
    def test_fetch(self):
        code = (("branch", "eq", 0, 0, 2), ("load", 1, 0, 0), ("halt",), ("jump", 1))
        self.begin((code, (0, 1), (7,)), reorder_buffer=2)
        self.go(("fetch", 0, 2, 5))
        self.assertEqual(self.entries(0), (entry(0, code[0], 2),))
        self.go(("fetch", 1, 24, 9))
        self.assertEqual(self.entries(1), (entry(1, code[1], predicted=9),))
        self.go(("fetch", 0, 3, 4))
        self.assertEqual(self.entries(0), (entry(0, code[0], 2), entry(2, code[2])))
        self.assertEqual((self.time, self.choices(), self.marks()), (3, ((), ()), ()))
        self.bars(("fetch", 0, None, None), ("fetch", 2, None, None), ("fetch", 7, 2, 5))
        self.go(("execute", 0, 0), ("commit", 0))
        self.fetch(0)
        self.assertEqual(self.entries(0), (entry(2, code[2]), entry(3, code[3], 1)))
        self.go(("commit", 0))
        self.bars(("fetch", 0, None, None))

    def test_execute(self):
        code = (("addi", 1, 0, 5), ("add", 2, 1, 1), ("fence", "slot"))
        self.begin((code, (0, 0), (7,)))
        self.fetch(0, 3)
        self.bars(("execute", 0, 1), ("execute", 0, 2), ("execute", 0, 3), ("execute", 0, 99), ("execute", 1, 0),
                  ("execute", 2, 0))
        self.go(("execute", 0, 0), ("execute", 0, 1))
        self.assertEqual([part[4] for part in self.entries(0)], [5, 10, None])
        self.assertEqual((self.time, self.choices(), self.marks()), (5, ((), ()), ()))
        self.bars(("execute", 0, 0))

    def test_resolve(self):
        code = (("store", 1, 0, 0), ("load", 2, 0, 1), ("fence", "slot"))
        self.begin((code, (0, 0), (7,)))
        self.fetch(0, 3)
        self.bars(("resolve", 0, 1), ("resolve", 0, 2), ("resolve", 0, 3), ("resolve", 1, 0), ("resolve", 2, 0))
        self.go(("resolve", 0, 0), ("resolve", 0, 1))
        self.assertEqual([part[5] for part in self.entries(0)], [0, "outside", None])
        self.assertEqual((self.time, self.choices(), self.marks()), (5, ((), ()), ()))
        self.bars(("resolve", 0, 0))

    def test_load_at_the_time_of_the_action(self):
        for order in ORDERS:
            self.begin(((("load", 1, 0, 0),), (0, 0), (7,)), order, requests=2)
            self.gain(1, 0, False)
            self.fetch(0)
            self.go(("resolve", 0, 0))
            # The line is present in the cache of the other core alone.
            self.bars(("load", 0, 0))
            self.gain(0, 0, False)
            self.bars(("load", 0, 1), ("load", 1, 0), ("load", 2, 0))
            time = self.time
            self.go(("load", 0, 0))
            self.assertEqual(self.entries(0), (entry(0, ("load", 1, 0, 0), result=7, place=0, time=time),))
            self.assertEqual((self.time, self.choices(), self.marks()), (time + 1, ((), ()), ()))
            self.bars(("load", 0, 0))

    def test_commit(self):
        self.begin(program_of(("addi", 1, 0, 5)))
        self.bars(("commit", 0), ("commit", 1), ("commit", 4))
        self.fetch(0)
        self.bars(("commit", 0))
        self.go(("execute", 0, 0), ("commit", 0))
        self.assertEqual(self.pipeline(0), ((1, registers(r1=5), False, -1), (), (), False, 1))
        self.assertEqual((self.time, self.choices(), self.marks()), (3, ((PLAIN,),), ()))

    def test_drain(self):
        for order in ORDERS:
            self.begin(((("addi", 1, 0, 5), ("store", 1, 0, 1), ("halt",)), (0, 0), (7, 8)), order)
            self.take(0)
            self.take(0)
            self.assertEqual(self.buffer(0), (("store", 1, 5, 1),))
            self.bars(("drain", 0, 0), ("drain", 0, 1), ("drain", 1, 0), ("drain", 2, 0))
            self.gain(0, 1, False)
            # The line was granted as exclusive, and so can be written.
            time = self.time
            self.go(("drain", 0, 0))
            self.assertEqual(self.buffer(0), ())
            self.assertEqual(self.cache(0), (((1, "modified", (5,)),), (), ()))
            self.assertEqual((self.time, self.choices(), self.marks()), (time + 1, ((PLAIN,) * 2, ()), ((time, 0, 1),)))
            self.bars(("drain", 0, 0))

    def test_drain_after_the_core_has_halted(self):
        self.begin(program_of(("store", 0, 0, 1)))
        self.take(0)
        self.take(0)
        self.assertTrue(self.state(0)[2])
        self.gain(0, 1)
        self.go(("drain", 0, 0))

    def test_drain_in_the_order_of_the_memory_order(self):
        for order in ORDERS:
            self.begin(program_of(("store", 0, 0, 1), ("store", 0, 0, 2)), order, requests=2, store_buffer=2)
            self.gain(0, 1)
            self.gain(0, 2)
            self.take(0)
            if order == "sc":
                continue
            self.take(0)
            if order == "tso":
                self.bars(("drain", 0, 1))
            else:
                time = self.time
                self.go(("drain", 0, 1))
                self.assertEqual((self.buffer(0), self.marks()), ((("store", 1, 0, 0),), ((time, 0, 1),)))

    def test_request_evict_and_deliver(self):
        self.begin(((), (0, 0), (7, 8, 9)), line_words=2)
        self.bars(("request", 0, 2, False), ("request", 2, 0, False), ("request", 0, 9, True), ("evict", 0, 0),
                  ("evict", 0, 5), ("evict", 2, 0), ("deliver", 0), ("deliver", 5))
        self.go(("request", 1, 1, True))
        self.assertEqual((self.cache(1), self.network()), (((), ((1, True),), ()), (("get modified", 1, 1),)))
        self.bars(("request", 1, 0, False), ("request", 1, 1, True), ("deliver", 1), ("evict", 1, 1))
        self.go(("deliver", 0), ("deliver", 0))
        self.assertEqual(self.cache(1), (((1, "modified", (9,)),), (), ()))
        self.bars(("evict", 0, 1), ("evict", 2, 1))
        self.go(("evict", 1, 1))
        self.assertEqual(self.cache(1), ((), (), ((1, (9,), True),)))
        # The home serves the request until the core has confirmed that it has received the line.
        self.bars(("deliver", 1))
        self.go(("deliver", 0), ("deliver", 0), ("deliver", 0))
        system = ((((), (), ()),) * 2, ((None, (), None),) * 2, (7, 8, 9), ())
        self.assertEqual(self.machine, (7, self.machine[1], system, ((), ()), ()))

    def test_what_does_not_exist(self):
        for order in ORDERS:
            self.begin(STORE_BUFFERING, order)
            for core in (2, 3, 4, 1000):
                self.bars(("fetch", core, None, None), ("execute", core, 0), ("resolve", core, 0), ("load", core, 0),
                          ("commit", core), ("drain", core, 0), ("request", core, 0, True), ("evict", core, 0))
            for other in (0, 1, 2, 1000):
                self.bars(("execute", 0, other), ("resolve", 0, other), ("load", 0, other), ("drain", 0, other),
                          ("deliver", other), ("evict", 0, other))
            self.bars(("request", 0, 2, True), ("request", 0, 1000, False))


class RecordsTest(MachineCase):
    def recorded(self, choice, mark, *, core=0):
        """The last step of the core has this choice, and this mark is the last one; the others are as before."""
        number = len(self.choices()[core]) - 1
        self.assertEqual(repr(self.choices()[core][-1]), repr(choice))
        self.assertEqual(self.pipeline(core)[4], number + 1)
        if mark is None:
            self.assertEqual([part for part in self.marks() if part[1:] == (core, number)], [])
        else:
            self.assertEqual(self.marks()[-1], (mark, core, number))

    def test_steps_without_an_event(self):
        code = (ONE, ("add", 2, 1, 1), ("jump", 3), ("branch", "eq", 0, 0, 4), ("fence", "slot"), ("fence", "loads"),
                ("fence", "stores"), ("fence", "full"), ("halt",))
        for order in ORDERS:
            self.begin(program_of(*code), order)
            for _ in code:
                self.take(0)
                self.recorded(PLAIN, None)
            self.assertEqual((self.choices(), self.marks()), (((PLAIN,) * len(code),), ()))
            self.assertEqual(self.state(0), (8, registers(r1=1, r2=2), True, -1))

    def test_steps_that_halt_outside(self):
        self.begin(program_of())
        self.take(0)
        self.recorded(PLAIN, None)
        for instruction in (("load", 1, 0, 3), ("store", 1, 0, 3), ("swap", 1, 2, 0), ("fetch add", 1, 2, 0),
                            ("load linked", 1, 2), ("store conditional", 1, 2, 0)):
            for order in ORDERS:
                self.begin(program_of(("addi", 2, 0, 3), instruction), order)
                self.take(0)
                self.take(0)
                self.recorded(PLAIN, None)
                self.assertEqual(self.marks(), ())
                self.assertTrue(self.state(0)[2])

    def test_loads(self):
        for order in ORDERS:
            self.begin(program_of(("load", 1, 0, 0), memory=(7,)), order)
            self.fetch(0)
            self.go(("resolve", 0, 0))
            self.gain(0, 0, False)
            loaded = self.time
            self.go(("load", 0, 0))
            self.fetch(0)
            committed = self.time
            self.go(("commit", 0))
            self.recorded((7, False), loaded if order == "wmm" else committed)
            self.assertEqual(self.time, committed + 1)

    def test_stores(self):
        for order in ORDERS:
            self.begin(program_of(ONE, ("store", 1, 0, 0), ("fence", "slot")), order)
            self.take(0)
            self.take(0)
            self.recorded(PLAIN, None)
            if order != "sc":
                self.take(0)
            self.gain(0)
            time = self.time
            self.go(("drain", 0, 0))
            self.assertEqual(self.marks(), ((time, 0, 1),))
            self.assertEqual(self.choices(), ((PLAIN,) * (2 if order == "sc" else 3),))

    def test_atomic_instructions(self):
        code = (("addi", 1, 0, 2), ("swap", 3, 0, 1), ("fetch add", 4, 0, 1), ("load linked", 5, 0),
                ("store conditional", 6, 0, 1), ("store conditional", 7, 0, 1))
        for order in ORDERS:
            self.begin(program_of(*code, memory=(7,)), order)
            self.take(0)
            self.gain(0)
            for choice in ((7, False), (2, False), (4, False), (0, True), (0, False)):
                self.fetch(0)
                self.go(("resolve", 0, 0))
                time = self.time
                self.go(("commit", 0))
                self.recorded(choice, time)
            self.assertEqual(self.state(0), (6, registers(r1=2, r3=7, r4=2, r5=4, r7=1), False, -1))
            self.assertEqual(self.cache(0), (((0, "modified", (2,)),), (), ()))
            self.assertEqual([part[1:] for part in self.marks()], [(0, number) for number in range(1, 6)])

    def test_stale_loads_are_not_recorded(self):
        # The word changes between the load and its commit.
        program = together((("load", 2, 0, 0), ONE), (ONE, ("store", 1, 0, 0)), memory=(0,))
        for order in STRONG:
            self.begin(program, order)
            self.gain(0, 0, False)
            self.fetch(0, 2)
            self.go(("resolve", 0, 0), ("load", 0, 0), ("execute", 0, 1))
            self.take(1)
            self.take(1)
            self.gain(1)
            self.go(("drain", 1, 0))
            self.bars(("commit", 0))
            self.gain(0, 0, False)
            before = self.machine
            self.go(("commit", 0))
            self.assertEqual(self.machine[3:], before[3:])
            self.assertEqual(self.time, before[0] + 1)
            self.assertEqual(self.machine[2], before[2])
            self.assertEqual(self.pipeline(0), ((0, ZEROS, False, -1), (), (), False, 0))
            self.take(0, load=True)
            self.recorded((1, False), self.time - 1)

    def test_under_wmm_a_load_keeps_its_word(self):
        self.begin(together((("load", 2, 0, 0),), (ONE, ("store", 1, 0, 0)), memory=(0,)), "wmm")
        self.gain(0, 0, False)
        self.fetch(0)
        self.go(("resolve", 0, 0))
        loaded = self.time
        self.go(("load", 0, 0))
        self.take(1)
        self.take(1)
        self.gain(1)
        drained = self.time
        self.go(("drain", 1, 0), ("commit", 0))
        self.recorded((0, False), loaded)
        self.assertEqual(self.marks(), ((drained, 1, 1), (loaded, 0, 0)))
        self.expect(((((0, False),), (PLAIN, PLAIN)), ((0, 0), (1, 1))), reported, self.machine)

    def test_each_core_has_its_own_steps(self):
        self.begin(((("swap", 1, 0, 0), ("halt",)), (0, 0, 0), (5,)))
        for core, word in ((2, 5), (0, 0), (1, 0)):
            self.gain(core)
            self.take(core)
            self.recorded((word, False), self.time - 1, core=core)
        self.take(2)
        self.assertEqual(self.choices(), (((0, False),), ((0, False),), ((5, False), PLAIN)))
        self.assertEqual([part[1:] for part in self.marks()], [(2, 0), (0, 0), (1, 0)])


class ReservationTest(MachineCase):
    program = together((("load linked", 1, 0), ("store conditional", 2, 0, 0)), (("swap", 1, 0, 0),), memory=(3, 4))

    def link(self, **sizes):
        self.begin(self.program, "pso", **sizes)
        self.gain(0, 0, False)
        self.take(0)
        self.assertTrue(self.held(0))

    def test_kept_while_the_line_is_present(self):
        self.link(requests=2)
        self.go(("request", 1, 0, False), ("deliver", 0), ("deliver", 0))
        self.assertTrue(self.held(0))
        self.settle()
        self.assertEqual(self.cache(0)[0], ((0, "shared", (3,)),))
        self.assertTrue(self.held(0))
        self.go(("request", 0, 1, False), ("fetch", 1, None, None), ("fetch", 0, None, None))
        self.settle()
        self.assertTrue(self.held(0))
        self.gain(0)
        self.go(("resolve", 0, 0), ("commit", 0))
        self.assertEqual(self.choices()[0][-1], (0, True))
        self.assertFalse(self.held(0))

    def test_lost_by_the_delivery_of_what_another_core_asked_for(self):
        self.link(exclusive_state=False)
        self.go(("request", 1, 0, True), ("deliver", 0))
        self.assertEqual(self.network(), (("invalidate", 0, 0),))
        self.assertTrue(self.held(0))
        # The delivery removes the line, and with the same action the reservation is lost.
        self.go(("deliver", 0))
        self.assertEqual(self.cache(0), ((), (), ()))
        self.assertEqual((self.state(0)[3], self.held(0)), (0, False))
        self.settle()
        # It does not come back with the line.
        self.gain(0)
        self.assertEqual((self.state(0)[3], self.held(0)), (0, False))
        self.take(0)
        self.assertEqual(self.choices()[0][-1], (0, False))
        self.assertEqual(self.state(0), (2, registers(r1=3, r2=1), False, -1))

    def test_lost_by_a_recall(self):
        self.link()
        self.go(("request", 1, 0, True), ("deliver", 0), ("deliver", 0))
        self.assertFalse(self.held(0))

    def test_lost_by_an_eviction(self):
        self.link()
        self.go(("request", 1, 1, False))
        self.assertTrue(self.held(0))
        self.go(("evict", 0, 0))
        self.assertFalse(self.held(0))

    def test_lost_after_the_core_has_halted(self):
        self.begin(together((("load linked", 1, 0),), memory=(3,)))
        self.gain(0)
        self.take(0)
        self.take(0)
        self.assertEqual((self.state(0)[2:], self.held(0)), ((True, 0), True))
        self.go(("evict", 0, 0))
        self.assertEqual((self.state(0)[2:], self.held(0)), ((True, 0), False))


class WalkingTest(Case):
    def machines(self, many):
        """Walks of random programs and configurations."""
        draw = random.Random(11)
        for seed in range(many):
            program = random_program(draw, cores=draw.choice((1, 2, 3)), size=draw.randrange(2, 8),
                                     words=draw.choice((1, 2, 3)))
            yield Walk(program, random_config(draw, ORDERS[seed % 4]), seed)

    def test_each_action_does_what_its_part_of_the_machine_does(self):
        for walk in self.machines(24):
            machine = start_machine(walk.program, walk.config)
            self.assertEqual(repr(machine), repr(walk.machine()))
            for number in range(400):
                action = walk.random_action()
                act = self.call if number < 40 else lambda function, *arguments: function(*arguments)
                after = act(after_action, walk.program, walk.config, machine, action)
                if walk.perform(action):
                    self.assertEqual(repr(after), repr(walk.machine()))
                    machine = after
                else:
                    self.assertIsNone(after)
            self.assertEqual(is_finished(machine), walk.finished())
            self.assertEqual(reported(machine), walk.execution())
            self.assertEqual(machine_outcome(walk.config, machine), walk.outcome())

    def test_pipelines_keep_what_keep_reservation_leaves_them(self):
        for walk in self.machines(12):
            walk.walk(200)
            for core in walk.cores:
                pipeline = walk.machine()[1][core]
                self.assertEqual(keep_reservation(walk.config, pipeline, walk.system[0][core]), pipeline)

    def all_actions(self):
        """All actions of each kind that could be possible, by kind, core, index or line; False before True."""
        cores, many, lines = range(5), range(9), range(5)
        for kind in KINDS:
            if kind == "deliver":
                yield from [(kind, index) for index in range(40)]
            for core in cores:
                if kind == "fetch":
                    yield (kind, core, None, None)
                if kind == "commit":
                    yield (kind, core)
                if kind in ("execute", "resolve", "load", "drain"):
                    yield from [(kind, core, index) for index in many]
                if kind == "request":
                    yield from [(kind, core, line, exclusive) for line in lines for exclusive in (False, True)]
                if kind == "evict":
                    yield from [(kind, core, line) for line in lines]

    def test_possible_actions(self):
        seen = set()
        for walk in self.machines(24):
            for _ in range(12):
                machine = walk.machine()
                wanted = tuple(action for action in self.all_actions()
                               if after_action(walk.program, walk.config, machine, action) is not None)
                self.expect(wanted, possible_actions, walk.program, walk.config, machine)
                seen.update(action[0] for action in wanted)
                for _ in range(20):
                    walk.perform(walk.random_action())
        self.assertEqual(seen, set(KINDS))

    def test_the_possible_actions_of_a_start(self):
        for order in ORDERS:
            config = Config(order, line_words=2)
            machine = start_machine(STORE_BUFFERING, config)
            self.expect((("fetch", 0, None, None), ("fetch", 1, None, None), ("request", 0, 0, False),
                         ("request", 0, 0, True), ("request", 1, 0, False), ("request", 1, 0, True)),
                        possible_actions, STORE_BUFFERING, config, machine)


class ReportTest(MachineCase):
    def test_events_stand_in_the_order_of_their_times(self):
        # Under wmm the second load comes first, and the first one is committed long after it was loaded.
        self.begin(((("load", 1, 0, 0), ("load", 2, 0, 1), ("halt",)), (0, 0), (7, 8)), "wmm", requests=2)
        self.gain(0, 1, False)
        self.gain(0, 0, False)
        self.fetch(0, 2)
        self.go(("resolve", 0, 0), ("resolve", 0, 1), ("load", 0, 1), ("load", 0, 0))
        self.expect((((), ()), ()), reported, self.machine)
        self.gain(1, 0, False)
        self.gain(1, 1, False)
        self.take(1, load=True)
        self.expect((((), ((7, False),)), ((1, 0),)), reported, self.machine)
        self.go(("commit", 0))
        self.assertEqual(self.call(reported, self.machine)[0], (((7, False),), ((7, False),)))
        self.go(("commit", 0))
        first, second, third = self.marks()
        self.assertEqual([first[1:], second[1:], third[1:]], [(1, 0), (0, 0), (0, 1)])
        self.assertEqual(len({first[0], second[0], third[0]}), 3)
        self.expect(((((7, False), (8, False)), ((7, False),)), ((0, 1), (0, 0), (1, 0))), reported, self.machine)

    def test_stores_stand_where_they_were_drained(self):
        self.begin(program_of(("store", 0, 0, 0), ("store", 0, 0, 1), ("load", 1, 0, 2), memory=(1, 2, 3)), "pso",
                   store_buffer=3)
        for line in range(3):
            self.gain(0, line)
        self.take(0)
        self.take(0)
        self.take(0, load=True)
        self.expect((((PLAIN, PLAIN, (3, False)),), ((0, 2),)), reported, self.machine)
        self.go(("drain", 0, 1))
        self.expect((((PLAIN, PLAIN, (3, False)),), ((0, 2), (0, 1))), reported, self.machine)
        self.go(("drain", 0, 0))
        self.expect((((PLAIN, PLAIN, (3, False)),), ((0, 2), (0, 1), (0, 0))), reported, self.machine)

    def test_finished(self):
        self.begin(((ONE, ("store", 1, 0, 0), ("halt",)), (2, 0), (7,)))
        self.expect(False, is_finished, self.machine)
        self.take(0)
        self.expect(False, is_finished, self.machine)
        for _ in range(3):
            self.take(1)
        # Both cores have halted, but a store waits.
        self.assertTrue(self.state(0)[2] and self.state(1)[2])
        self.expect(False, is_finished, self.machine)
        self.go(("request", 1, 0, True), ("deliver", 0), ("deliver", 0), ("drain", 1, 0))
        # A message is still in flight.
        self.assertEqual(self.network(), (("received", 1, 0),))
        self.expect(True, is_finished, self.machine)
        self.settle()
        self.expect(True, is_finished, self.machine)

    def test_the_outcome(self):
        self.begin(((ONE, ("store", 1, 0, 2), ("halt",)), (2, 0), (7, 8, 9)), line_words=2)
        start = ((2, ZEROS, False, -1), (0, ZEROS, False, -1))
        self.expect((start, (7, 8, 9)), machine_outcome, self.config, self.machine)
        for _ in range(2):
            self.take(1)
        # A store that waits is in no line yet, and an instruction in flight changes nothing.
        self.fetch(0)
        states = ((2, ZEROS, False, -1), (2, registers(r1=1), False, -1))
        self.expect((states, (7, 8, 9)), machine_outcome, self.config, self.machine)
        self.go(("request", 1, 1, True), ("deliver", 0))
        self.expect((states, (7, 8, 9)), machine_outcome, self.config, self.machine)
        self.go(("deliver", 0), ("drain", 1, 0))
        self.assertEqual(self.machine[2][2], (7, 8, 9))
        self.expect((states, (7, 8, 1)), machine_outcome, self.config, self.machine)
        self.go(("evict", 1, 1))
        self.expect((states, (7, 8, 1)), machine_outcome, self.config, self.machine)
        self.settle()
        self.expect((states, (7, 8, 1)), machine_outcome, self.config, self.machine)
        self.go(("commit", 0))
        self.take(1)
        halted = ((2, ZEROS, True, -1), (2, registers(r1=1), True, -1))
        self.expect((halted, (7, 8, 1)), machine_outcome, self.config, self.machine)

    def test_the_example(self):
        self.begin(STORE_BUFFERING)
        self.go(("fetch", 0, None, None), ("execute", 0, 0), ("commit", 0))
        self.assertEqual((self.time, reported(self.machine)), (3, ((((0, False),), ()), ())))
        self.bars(("commit", 0))
