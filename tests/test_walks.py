"""Machines that walk at random report valid executions, which the history machine knows: [120] to [225]."""

import random
import unittest

from litmuscore.configs import Config
from litmuscore.executions import check, outcome
from litmuscore.graphs import communication_of
from litmuscore.outcomes import outcomes_of
from litmuscore.traces import graphs_of
from tests.helpers import ORDERS, STORE_BUFFERING
from tests.small import PROGRAMS
from tests.walks import Walk, random_config, random_program


class WalkTest(unittest.TestCase):
    def walk(self, program, config, seed):
        """The execution and the outcome of a walk, which are valid; None if it did not come to its end."""
        walk = Walk(program, config, seed)
        walk.walk(4000)
        if not walk.finished():
            return None
        execution, result = walk.execution(), walk.outcome()
        self.assertIsNone(check(program, config.order, execution), (program, vars(config), seed))
        self.assertEqual(outcome(program, config.order, execution), result, (program, vars(config), seed))
        return execution, result

    def test_random_programs_and_configurations(self):
        draw = random.Random(5)
        finished = 0
        for seed in range(60):
            program = random_program(draw, cores=draw.choice((2, 2, 3)), size=draw.randrange(4, 8),
                                     words=draw.choice((2, 3)))
            for order in ORDERS:
                finished += self.walk(program, random_config(draw, order), seed) is not None
        self.assertGreater(finished, 200)

    def test_what_machines_do_is_among_the_outcomes_and_the_graphs(self):
        draw = random.Random(6)
        programs = [random_program(draw, size=draw.randrange(3, 6), words=draw.choice((1, 2))) for _ in range(25)]
        for program in programs + list(PROGRAMS):
            for order in ORDERS:
                outcomes = [result for result, _ in outcomes_of(program, order, limit=4000)]
                graphs = graphs_of(program, order, limit=9000)
                for seed in range(3):
                    walked = self.walk(program, random_config(draw, order), seed)
                    if walked is not None:
                        execution, result = walked
                        self.assertIn(result, outcomes)
                        self.assertIn((execution[0], communication_of(program, order, execution)), graphs)

    def test_machines_reach_each_outcome_of_store_buffering(self):
        for order in ORDERS:
            config = Config(order, reorder_buffer=6, requests=2)
            found = {self.walk(STORE_BUFFERING, config, seed)[1] for seed in range(120)}
            self.assertEqual(found, {result for result, _ in outcomes_of(STORE_BUFFERING, order)})
