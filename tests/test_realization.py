"""Realization: [280] and [281]."""

import random

from litmuscore.configs import Config
from litmuscore.errors import InvalidExecution
from litmuscore.executions import check, outcome
from litmuscore.interleaving import interleave
from litmuscore.machine import reported, start_machine
from litmuscore.realization import realize
from litmuscore.service import run_to_end
from litmuscore.simulator import Simulator
from tests.drawn import drawn_execution
from tests.helpers import ORDERS, PLAIN, STORE_BUFFERING, Case, together
from tests.small import PROGRAMS, valid_executions
from tests.walks import random_program

ONE = ("addi", 1, 0, 1)


class Realizing(Case):
    def realized(self, program, order, execution):
        """The actions, which lead a machine through exactly this execution."""
        config, actions = self.call(realize, program, order, execution)
        self.assertIs(type(config), Config)
        room = 1 + max(len(choices) for choices in execution[0])
        self.assertEqual(repr(vars(config)), repr({
            "order": order, "reorder_buffer": room, "store_buffer": room, "line_words": 1, "sets": 1,
            "ways": len(program[2]), "requests": 1, "exclusive_state": False}))
        simulator = Simulator(program, config)
        self.assertIsNone(simulator.perform(actions))
        self.assertIs(simulator.finished, True)
        self.assertEqual(repr(simulator.execution()), repr(execution))
        self.assertEqual(simulator.outcome(), outcome(program, order, execution))
        return actions


class RealizationTest(Realizing):
    def test_nothing_happens(self):
        for order in ORDERS:
            self.assertEqual(self.realized(((), (0, 24), (5,)), order, ((((0, False),), ((0, False),)), ())),
                             (("fetch", 0, None, None), ("commit", 0), ("fetch", 1, None, None), ("commit", 1)))

    def test_store_buffering(self):
        late = (((PLAIN,) * 4, (PLAIN,) * 4), ((0, 2), (1, 2), (0, 1), (1, 1)))
        for order in ("tso", "pso", "wmm"):
            self.realized(STORE_BUFFERING, order, late)

    def test_all_executions_of_small_programs(self):
        for program in PROGRAMS:
            for order in ORDERS:
                for execution in valid_executions(program, order):
                    self.realized(program, order, execution)

    def test_random_executions(self):
        draw = random.Random(61)
        for _ in range(60):
            program = random_program(draw, cores=draw.choice((1, 2, 2, 3, 4)), size=draw.randrange(2, 6),
                                     words=draw.choice((1, 2, 3, 16)))
            for order in ORDERS:
                self.realized(program, order, drawn_execution(draw, program, order))

    def test_branches_and_what_they_skip(self):
        code = (("load", 1, 0, 0), ("branch", "eq", 1, 0, 4), ONE, ("jump", 6), ("addi", 1, 0, 2), ("jump", 6),
                ("swap", 2, 0, 1), ("branch", "geu", 2, 1, 24))
        program = (code, (0, 0), (0, 9))
        draw = random.Random(71)
        for order in ORDERS:
            taken = set()
            for _ in range(25):
                execution = drawn_execution(draw, program, order)
                self.realized(program, order, execution)
                taken.add(tuple(choices[0][0] == 0 for choices in execution[0]))
            self.assertEqual(taken, {(True, True), (True, False), (False, True)})

    def test_fences(self):
        for kind in ("loads", "stores", "full", "slot"):
            fence = ("fence", kind)
            program = together((("store", 0, 0, 0), fence, ("store", 0, 0, 1), fence, ("load", 1, 0, 2)),
                               (("load", 1, 0, 1), fence, ("load", 1, 0, 0), fence, ("store", 0, 0, 2)),
                               memory=(1, 1, 1))
            draw = random.Random(kind)
            for order in ORDERS:
                for _ in range(12):
                    self.realized(program, order, drawn_execution(draw, program, order))


class ConditionalTest(Realizing):
    linking = (ONE, ("load linked", 2, 0), ("store conditional", 3, 0, 1))

    def test_success(self):
        for order in ORDERS:
            program = together(self.linking, (("load", 1, 0, 0),), memory=(7,))
            choices = ((PLAIN, (7, False), (0, True), PLAIN), ((7, False), PLAIN))
            # The other core may read the line in between, without a write.
            for events in (((0, 1), (1, 0), (0, 2)), ((1, 0), (0, 1), (0, 2))):
                self.realized(program, order, (choices, events))

    def test_success_with_own_writes_in_between(self):
        for order in ORDERS:
            program = together((("load linked", 2, 0), ("swap", 4, 0, 0), ("store conditional", 3, 0, 0)), memory=(7,))
            self.realized(program, order, ((((7, False), (7, False), (0, True), PLAIN),), ((0, 0), (0, 1), (0, 2))))

    def test_failure_with_the_reservation(self):
        for order in ORDERS:
            program = together(self.linking, memory=(7,))
            actions = self.realized(program, order, (((PLAIN, (7, False), (0, False), PLAIN),), ((0, 1), (0, 2))))
            self.assertIn(("evict", 0, 0), actions)

    def test_failure_without_the_reservation(self):
        for order in ORDERS:
            program = together(self.linking, (("swap", 1, 0, 0),), memory=(7,))
            choices = ((PLAIN, (7, False), (0, False), PLAIN), ((7, False), PLAIN))
            self.realized(program, order, (choices, ((0, 1), (1, 0), (0, 2))))

    def test_failure_with_another_link_or_none(self):
        for order in ORDERS:
            program = together((("addi", 1, 0, 1), ("load linked", 2, 1), ("store conditional", 3, 0, 1),
                                ("store conditional", 4, 1, 1)), memory=(7, 8))
            self.realized(program, order, (((PLAIN, (8, False), (0, False), (0, False), PLAIN),),
                                           ((0, 1), (0, 2), (0, 3))))

    def test_success_after_a_failure(self):
        for order in ORDERS:
            again = self.linking + self.linking[1:]
            program = together(again, (("load linked", 1, 0), ("store conditional", 2, 0, 1)), memory=(7,))
            choices = ((PLAIN, (7, False), (0, False), (7, False), (0, True), PLAIN), ((1, False), (0, True), PLAIN))
            self.realized(program, order, (choices, ((0, 1), (0, 2), (0, 3), (0, 4), (1, 0), (1, 1))))
            choices = ((PLAIN, (7, False), (0, False), (7, False), (0, True), PLAIN), ((7, False), (0, True), PLAIN))
            self.realized(program, order, (choices, ((1, 0), (0, 1), (1, 1), (0, 2), (0, 3), (0, 4))))


class EarlyTest(Realizing):
    def test_loads_long_before_their_turn(self):
        # Each load but the first one comes before all that stands before it.
        words = tuple(range(10, 18))
        loads = tuple(("load", 1 + address % 7, 0, address) for address in range(8))
        program = together((("swap", 1, 0, 0), *loads[1:]), tuple(("store", 0, 0, address) for address in range(8)),
                           memory=words)
        choices = (tuple((word, False) for word in words) + (PLAIN,), (PLAIN,) * 9)
        stores = tuple((1, number) for number in range(8))
        for events in (
            tuple((0, number) for number in reversed(range(8))) + stores,
            tuple((core, number) for number in reversed(range(8)) for core in (0, 1)),
        ):
            self.assertIsNone(check(program, "wmm", (choices, events)))
            self.realized(program, "wmm", (choices, events))

    def test_loads_behind_branches_on_words_that_come_later(self):
        program = together((("load", 1, 0, 0), ("branch", "eq", 1, 0, 3), ("load", 2, 0, 1), ("load", 3, 1, 0)),
                           (ONE, ("store", 1, 0, 1), ("store", 1, 0, 0)), memory=(0, 0))
        choices = (((1, False), PLAIN, (0, False), (1, False), PLAIN), (PLAIN,) * 4)
        self.realized(program, "wmm", (choices, ((0, 2), (1, 1), (0, 3), (1, 2), (0, 0))))

    def test_loads_that_find_their_word_in_stores_that_come_later(self):
        program = together((("load", 1, 0, 1), ("store", 1, 0, 0), ("load", 2, 0, 0), ("load", 3, 2, 0)),
                           (("store", 0, 0, 1),), memory=(5, 1))
        choices = (((1, False), PLAIN, (1, False), (1, False), PLAIN), (PLAIN, PLAIN))
        self.realized(program, "wmm", (choices, ((0, 2), (0, 0), (0, 3), (1, 0), (0, 1))))


class LongTest(Realizing):
    def test_more_than_60_steps(self):
        code = (("addi", 1, 0, 17), ("fetch add", 2, 0, 1), ("store", 1, 0, 1), ("load", 3, 0, 1),
                ("addi", 1, 1, 65535), ("branch", "ne", 1, 0, 1))
        program = (code, (0, 0), (0, 0))
        for order in ORDERS:
            config = Config(order)
            machine, _ = run_to_end(program, config, start_machine(program, config), rounds=2000)
            execution = reported(machine)
            self.assertGreater(min(len(choices) for choices in execution[0]), 80)
            self.realized(program, order, execution)

    def test_a_long_interleaving(self):
        code = (("addi", 3, 0, 30), ("addi", 1, 1, 1), ("swap", 2, 0, 1), ("branch", "ltu", 1, 3, 1), ("load", 4, 0, 0))
        program = (code, (0, 0), (0,))
        turns = tuple((number % 2, False) for number in range(2 * (1 + 3 * 30 + 2)))
        for order in ORDERS:
            self.realized(program, order, interleave(program, turns))


class InvalidTest(Case):
    def test_each_violation(self):
        program = STORE_BUFFERING
        plain = (PLAIN,) * 4
        events = ((0, 1), (0, 2), (1, 1), (1, 2))
        read = (PLAIN, PLAIN, (1, False), PLAIN)
        for order, execution, violation in (
            ("sc", ((plain,), ()), ("cores",)),
            ("sc", ((plain,) * 5, events), ("cores",)),
            ("tso", ((plain, ((1, False),)), events), ("run", 1, 0)),
            ("tso", ((plain + (PLAIN,), plain), events), ("run", 0, 4)),
            ("pso", ((plain, plain[:3]), events), ("unfinished", 1)),
            ("pso", (((), ()), ()), ("unfinished", 0)),
            ("wmm", ((plain, plain), events[:3]), ("events",)),
            ("wmm", ((plain, plain), events + ((0, 1),)), ("events",)),
            ("wmm", ((plain, plain), events + ((7, 9),)), ("events",)),
            ("sc", ((plain, plain), ((0, 2), (1, 2), (0, 1), (1, 1))), ("order", (0, 1), (0, 2))),
            ("sc", ((plain, plain), events), ("value", (1, 2))),
            ("tso", ((read, plain), ((0, 2), (1, 2), (0, 1), (1, 1))), ("value", (0, 2))),
        ):
            self.refuse(InvalidExecution, {"violation": violation}, realize, program, order, execution)

    def test_atomicity(self):
        program = together((("load linked", 2, 0), ("store conditional", 3, 0, 0)), (("swap", 1, 0, 0),), memory=(0,))
        for order in ORDERS:
            execution = (((PLAIN, (0, True), PLAIN), (PLAIN, PLAIN)), ((0, 0), (1, 0), (0, 1)))
            self.refuse(InvalidExecution, {"violation": ("atomicity", (0, 1))}, realize, program, order, execution)

    def test_valid_under_a_weaker_order_alone(self):
        late = (((PLAIN,) * 4, (PLAIN,) * 4), ((0, 2), (1, 2), (0, 1), (1, 1)))
        self.refuse(InvalidExecution, {"violation": ("order", (0, 1), (0, 2))}, realize, STORE_BUFFERING, "sc", late)
