"""Simulators: [270] and [271]."""

import random

from litmuscore.configs import Config
from litmuscore.errors import ActionNotPossible, NotFinished
from litmuscore.machine import after_action, is_finished, machine_outcome, reported, start_machine
from litmuscore.service import run_to_end, serve
from litmuscore.simulator import Simulator
from tests.helpers import ORDERS, STORE_BUFFERING, Case, shown
from tests.walks import Walk, random_config, random_program

FETCH = ("fetch", 0, None, None)
STEP = (FETCH, ("execute", 0, 0), ("commit", 0))


class SimulatorTest(Case):
    def simulator(self, order="tso", **sizes):
        self.config = Config(order, **sizes)
        return Simulator(STORE_BUFFERING, self.config)

    def shows(self, simulator, machine):
        """The simulator keeps this machine."""
        self.assertEqual(repr(simulator.machine), repr(machine))
        self.assertEqual(simulator.time, machine[0])
        self.assertIs(simulator.finished, is_finished(machine))
        self.assertEqual(simulator.execution(), reported(machine))
        self.assertIs(simulator.program, STORE_BUFFERING)
        self.assertIs(simulator.config, self.config)
        self.assertEqual(set(vars(simulator)), {"program", "config", "machine"})

    def test_at_first(self):
        for order in ORDERS:
            simulator = self.simulator(order, line_words=2)
            self.shows(simulator, start_machine(STORE_BUFFERING, self.config))
            self.assertEqual(simulator.time, 0)
            self.assertIs(simulator.finished, False)

    def test_properties_are_not_assigned(self):
        simulator = self.simulator()
        for name in ("time", "finished"):
            with self.assertRaises(AttributeError):
                setattr(simulator, name, 5)

    def test_apply(self):
        simulator = self.simulator()
        machine = simulator.machine
        for action in (("commit", 0), ("deliver", 0), ("fetch", 2, None, None), ("request", 0, 2, True)):
            self.assertIs(simulator.apply(action), False)
            self.shows(simulator, machine)
        for action in (*STEP, ("request", 1, 0, True), ("deliver", 0)):
            self.assertIs(simulator.apply(action), True)
            machine = after_action(STORE_BUFFERING, self.config, machine, action)
            self.shows(simulator, machine)

    def test_perform(self):
        simulator = self.simulator()
        self.assertIsNone(simulator.perform(()))
        self.shows(simulator, start_machine(STORE_BUFFERING, self.config))
        self.assertIsNone(simulator.perform(STEP))
        machine = start_machine(STORE_BUFFERING, self.config)
        for action in STEP:
            machine = after_action(STORE_BUFFERING, self.config, machine, action)
        self.shows(simulator, machine)

    def test_perform_with_an_action_that_is_not_possible(self):
        simulator = self.simulator()
        missing = ((0, (("commit", 0),)), (0, (("drain", 0, 0), FETCH)), (1, (FETCH, ("resolve", 0, 1))),
                   (2, (FETCH, FETCH, ("execute", 0, 7), FETCH)),
                   (2, (("request", 1, 1, False), ("deliver", 0), ("fetch", 5, None, None))))
        for before, more in (((), (3, (*STEP, ("commit", 0), ("commit", 0)))), (STEP, (1, STEP))):
            simulator.perform(before)
            machine = simulator.machine
            for place, actions in (*missing, more):
                self.refuse(ActionNotPossible, {"place": place}, simulator.perform, actions)
                self.shows(simulator, machine)

    def test_serve(self):
        for order in ORDERS:
            simulator = self.simulator(order)
            machine = simulator.machine
            for core in (0, 1, 1, 0, 0, 1):
                machine, actions = serve(STORE_BUFFERING, self.config, machine, core)
                self.assertEqual(simulator.serve(core), actions)
                self.shows(simulator, machine)
        simulator = self.simulator()
        self.assertEqual(simulator.serve(0, most=0), ())
        self.assertEqual(simulator.serve(0, most=2), STEP[:2])
        self.assertEqual(simulator.serve(0, most=2), STEP[2:])
        self.assertEqual(simulator.time, 3)
        with self.assertRaises(TypeError):
            simulator.serve(0, 5)

    def test_run_to_end(self):
        for order in ORDERS:
            for rounds in (0, 1, 3, 60):
                simulator = self.simulator(order)
                machine, actions = run_to_end(STORE_BUFFERING, self.config, simulator.machine, rounds=rounds)
                self.assertEqual(simulator.run_to_end(rounds=rounds), actions)
                self.shows(simulator, machine)
            machine, actions = run_to_end(STORE_BUFFERING, self.config, machine)
            self.assertEqual(simulator.run_to_end(), actions)
            self.assertIs(simulator.finished, True)
            self.assertEqual(simulator.run_to_end(), ())
            self.shows(simulator, machine)
        with self.assertRaises(TypeError):
            simulator.run_to_end(5)

    def test_outcome(self):
        for order in ORDERS:
            simulator = self.simulator(order)
            while not simulator.finished:
                machine = simulator.machine
                self.refuse(NotFinished, {}, simulator.outcome)
                self.shows(simulator, machine)
                simulator.run_to_end(rounds=1)
            self.assertEqual(repr(self.call(simulator.outcome)),
                             repr(machine_outcome(self.config, simulator.machine)))

    def test_outcome_with_messages_in_flight(self):
        config = Config("tso")
        simulator = Simulator(((), (0,), (7,)), config)
        simulator.perform((("request", 0, 0, True), FETCH, ("commit", 0)))
        self.assertEqual(simulator.machine[2][3], (("get modified", 0, 0),))
        self.assertEqual(simulator.outcome(), (((0, (0,) * 8, True, -1),), (7,)))

    def test_simulators_do_not_touch_each_other(self):
        first, second = self.simulator(), self.simulator()
        first.perform(STEP)
        self.assertEqual((first.time, second.time), (3, 0))

    def test_random_actions(self):
        draw = random.Random(51)
        for seed in range(20):
            program = random_program(draw, size=4)
            config = random_config(draw, ORDERS[seed % 4])
            walk = Walk(program, config, seed)
            simulator = Simulator(program, config)
            done = ()
            for _ in range(300):
                action = walk.random_action()
                possible = walk.perform(action)
                self.assertIs(simulator.apply(action), possible)
                done += (action,) if possible else ()
            self.assertEqual(repr(simulator.machine), repr(walk.machine()))
            again = Simulator(program, config)
            before = shown(done)
            self.assertIsNone(again.perform(done))
            self.assertEqual(shown(done), before)
            self.assertEqual(repr(again.machine), repr(walk.machine()))
            with self.assertRaises(ActionNotPossible) as caught:
                Simulator(program, config).perform(done + (("commit", 9),))
            self.assertEqual(caught.exception.place, len(done))
