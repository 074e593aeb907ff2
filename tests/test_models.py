"""The valid executions, the communications and the history machine agree on small programs: [60] to [108]."""

import unittest

from litmuscore.executions import outcome
from litmuscore.graphs import arrange, communication_of, is_consistent, must_follow
from litmuscore.history import after_move, final_outcome, first_situation, is_final
from tests.helpers import ORDERS, STORE_BUFFERING
from tests.small import CHOICES, FENCED, FORWARDING, MESSAGE, PROGRAMS, valid_executions


def moves(situation):
    for core, view in enumerate(situation[1]):
        for choice in CHOICES:
            for time in range(len(situation[0]) + 2):
                yield ("step", core, choice, time)
        for index in range(len(view[1])):
            yield ("effect", core, index)


def machine_outcomes(program, order):
    """The outcomes of all final situations that any moves reach."""
    found = {first_situation(program)}
    waiting = list(found)
    outcomes = set()
    while waiting:
        situation = waiting.pop()
        if is_final(situation):
            outcomes.add(final_outcome(program, situation))
        for move in moves(situation):
            after = after_move(program, order, situation, move)
            if after is not None and after not in found:
                found.add(after)
                waiting.append(after)
    return outcomes


class ModelsTest(unittest.TestCase):
    def test_executions_and_the_history_machine_have_the_same_outcomes(self):
        for program in PROGRAMS:
            stronger = set()
            for order in ORDERS:
                outcomes = {outcome(program, order, execution) for execution in valid_executions(program, order)}
                self.assertEqual(outcomes, machine_outcomes(program, order), (program, order))
                self.assertLessEqual(stronger, outcomes)
                stronger = outcomes

    def test_how_many_outcomes_each_order_allows(self):
        for program, many in ((STORE_BUFFERING, (3, 4, 4, 4)), (MESSAGE, (3, 3, 4, 4)), (FENCED, (3, 3, 3, 3)),
                              (FORWARDING, (3, 4, 4, 4))):
            self.assertEqual(tuple(len(machine_outcomes(program, order)) for order in ORDERS), many)

    def test_the_communication_of_a_valid_execution(self):
        for program in PROGRAMS:
            for order in ORDERS:
                for choices, events in valid_executions(program, order):
                    communication = communication_of(program, order, (choices, events))
                    self.assertTrue(is_consistent(program, choices, communication))
                    for first, second in must_follow(program, order, choices, communication):
                        self.assertLess(events.index(first), events.index(second))
                    name, arranged = arrange(program, order, choices, communication)
                    self.assertEqual(name, "order")
                    self.assertEqual(communication_of(program, order, (choices, arranged)), communication)
