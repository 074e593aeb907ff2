"""The whole program: the ways to see a program agree, [1] to [3], [60], [321]."""

import random
import unittest

from litmuscore.configs import Config
from litmuscore.errors import LitmusError
from litmuscore.executions import check, outcome
from litmuscore.fences import cheapest, with_plan
from litmuscore.graphs import arrange, communication_of, is_consistent
from litmuscore.litmus import decide, observed_values
from litmuscore.machine import is_finished, machine_outcome, reported, start_machine
from litmuscore.outcomes import outcomes_of
from litmuscore.paths import moves_for, shown_execution
from litmuscore.printer import show_test
from litmuscore.reader import read_test
from litmuscore.realization import realize
from litmuscore.service import run_to_end
from litmuscore.simulator import Simulator
from litmuscore.traces import graphs_of
from tests.drawn import drawn_execution
from tests.helpers import ORDERS
from tests.small import PROGRAMS
from tests.walks import Walk, random_config, random_program

# Each core raises its flag and enters if the other flag is down: at most one of them may enter.
SECTIONS = """
memory 0 0 0
start 0 7
addi r1 r0 1        ; core 0 raises its flag, and looks at the other one
store r1 r0 0
fence slot
load r2 r0 1
branch ne r2 r0 6
store r1 r0 2       ; the critical section
halt
addi r1 r0 1        ; core 1 raises its flag, and looks at the other one
store r1 r0 1
fence slot
load r2 r0 0
halt
observe 0:r2 1:r2 [2]
never 0:r2 = 0 and 1:r2 = 0
"""
PASSING = """
memory 0 0
start 0 5
addi r1 r0 1        ; the message, and the flag
store r1 r0 0
fence slot
store r1 r0 1
halt
load r1 r0 1        ; the flag, and the message
fence slot
load r2 r0 0
halt
observe 1:r1 1:r2
never 1:r1 = 1 and not 1:r2 = 1
"""


def programs(many):
    """The small programs, and some that are drawn at random."""
    draw = random.Random(131)
    return list(PROGRAMS) + [random_program(draw, size=draw.randrange(2, 6), words=draw.choice((1, 2)))
                             for _ in range(many)]


class AgreementTest(unittest.TestCase):
    def test_graphs_have_the_outcomes_of_the_program(self):
        for program in programs(12):
            for order in ORDERS:
                found = set()
                for choices, communication in graphs_of(program, order, limit=9000):
                    self.assertTrue(is_consistent(program, choices, communication))
                    name, events = arrange(program, order, choices, communication)
                    self.assertEqual(name, "order")
                    self.assertIsNone(check(program, order, (choices, events)))
                    self.assertEqual(communication_of(program, order, (choices, events)), communication)
                    found.add(outcome(program, order, (choices, events)))
                self.assertEqual(found, {result for result, _ in outcomes_of(program, order, limit=4000)})

    def test_machines_reach_all_outcomes_of_the_program(self):
        for program in programs(25):
            for order in ORDERS:
                for result, execution in outcomes_of(program, order, limit=4000):
                    config, actions = realize(program, order, execution)
                    simulator = Simulator(program, config)
                    simulator.perform(actions)
                    self.assertEqual(simulator.execution(), execution)
                    self.assertEqual(simulator.outcome(), result)

    def test_machines_reach_no_other_outcomes(self):
        draw = random.Random(141)
        for seed, program in enumerate(programs(20)):
            for order in ORDERS:
                outcomes = {result for result, _ in outcomes_of(program, order, limit=4000)}
                for _ in range(3):
                    config = random_config(draw, order)
                    machine, _ = run_to_end(program, config, start_machine(program, config))
                    self.assertTrue(is_finished(machine))
                    self.assertIn(machine_outcome(config, machine), outcomes)
                    # Some random actions first make the machine less regular.
                    walk = Walk(program, config, seed)
                    walk.walk(draw.randrange(120))
                    machine, _ = run_to_end(program, config, walk.machine())
                    self.assertTrue(is_finished(machine))
                    self.assertIsNone(check(program, order, reported(machine)))
                    self.assertIn(machine_outcome(config, machine), outcomes)

    def test_the_three_ways_to_see_an_execution(self):
        draw = random.Random(151)
        for program in programs(15):
            for order in ORDERS:
                outcomes = {result for result, _ in outcomes_of(program, order, limit=4000)}
                for _ in range(4):
                    execution = drawn_execution(draw, program, order)
                    result = outcome(program, order, execution)
                    self.assertIn(result, outcomes)
                    shown = shown_execution(program, order, moves_for(program, order, execution))
                    self.assertEqual(shown[0], execution[0])
                    self.assertEqual(outcome(program, order, shown), result)
                    config, actions = realize(program, order, execution)
                    simulator = Simulator(program, config)
                    simulator.perform(actions)
                    self.assertEqual((simulator.execution(), simulator.outcome()), (execution, result))

    def test_each_order_allows_what_those_before_it_allow(self):
        draw = random.Random(161)
        for program in programs(15):
            stronger = set()
            for place, order in enumerate(ORDERS):
                outcomes = {result for result, _ in outcomes_of(program, order, limit=4000)}
                self.assertLessEqual(stronger, outcomes)
                stronger = outcomes
                execution = drawn_execution(draw, program, order)
                for weaker in ORDERS[place:]:
                    self.assertIsNone(check(program, weaker, execution))


class FencedTest(unittest.TestCase):
    def ends(self, test, order, plan):
        """The observed values with which machines of the program with the plan end."""
        program = with_plan(test[0], plan)
        draw = random.Random(171)
        found = set()
        for seed in range(60):
            config = random_config(draw, order) if seed % 2 else Config(order, reorder_buffer=6, requests=2)
            walk = Walk(program, config, seed)
            walk.walk(4000)
            machine, _ = run_to_end(program, config, walk.machine())
            found.add(observed_values(test, machine_outcome(config, machine)))
        return found

    def test_a_plan_that_is_sufficient_makes_machines_end_with_wanted_values(self):
        for text, plans in ((PASSING, (("none", "none"), ("none", "none"), ("stores", "none"), ("stores", "loads"))),
                            (SECTIONS, (("none", "none"), ("full", "full"), ("full", "full"), ("full", "full")))):
            test = read_test(text)
            holds, wanted = decide(test, "sc")
            self.assertTrue(holds)
            for order, expected in zip(ORDERS, plans):
                plan, _, certificate = cheapest(test, order, "sc", (1, 1, 3))
                self.assertEqual(plan, expected)
                self.assertLessEqual(self.ends(test, order, plan), set(wanted))
                # A machine of the program as it is can end with other values, as each execution of the certificate.
                for execution in certificate[:1]:
                    config, actions = realize(test[0], order, execution)
                    simulator = Simulator(test[0], config)
                    simulator.perform(actions)
                    self.assertNotIn(observed_values(test, simulator.outcome()), wanted)

    def test_without_a_plan_machines_can_end_with_other_values(self):
        for text in (PASSING, SECTIONS):
            test = read_test(text)
            _, wanted = decide(test, "sc")
            found = set()
            for _, execution in outcomes_of(test[0], "wmm"):
                config, actions = realize(test[0], "wmm", execution)
                simulator = Simulator(test[0], config)
                simulator.perform(actions)
                found.add(observed_values(test, simulator.outcome()))
            self.assertFalse(found <= set(wanted))
            self.assertEqual(sorted(found), list(decide(test, "wmm")[1]))

    def test_texts_with_a_plan(self):
        test = read_test(PASSING)
        for plan in (("none", "none"), ("stores", "loads"), ("full", "loads")):
            fenced = (with_plan(test[0], plan), *test[1:])
            again = read_test(show_test(fenced))
            self.assertEqual(again, fenced)
            for order in ORDERS:
                self.assertEqual(decide(again, order), decide(fenced, order))


class ErrorsTest(unittest.TestCase):
    def test_errors_are_those_of_the_package(self):
        for function, arguments in ((read_test, ("",)), (realize, (PROGRAMS[0], "sc", ((), ())))):
            with self.assertRaises(LitmusError) as caught:
                function(*arguments)
            self.assertIsInstance(caught.exception, ValueError)
