"""The valid executions, the communications and the history machine agree on small programs: [60] to [108]."""

import itertools
import unittest

from litmuscore.executions import check, events_of, outcome
from litmuscore.graphs import arrange, communication_of, is_consistent, must_follow
from litmuscore.history import after_move, final_outcome, first_situation, is_final
from litmuscore.programs import start_state, step
from tests.helpers import ORDERS, STORE_BUFFERING, together

ONE = ("addi", 1, 0, 1)
MESSAGE = together((ONE, ("store", 1, 0, 0), ("store", 1, 0, 1)), (("load", 1, 0, 1), ("load", 2, 0, 0)),
                   memory=(0, 0))
FENCED = together((ONE, ("store", 1, 0, 0), ("fence", "stores"), ("store", 1, 0, 1)),
                  (("load", 1, 0, 1), ("fence", "loads"), ("load", 2, 0, 0)), memory=(0, 0))
FORWARDING = together((ONE, ("store", 1, 0, 0), ("load", 2, 0, 0), ("load", 3, 0, 1)),
                      (ONE, ("store", 1, 0, 1), ("load", 3, 0, 0)), memory=(0, 0))
COHERENCE = together((("load", 1, 0, 0), ("load", 2, 0, 0)), (ONE, ("store", 1, 0, 0), ("store", 0, 0, 0)),
                     memory=(1,))
LINKED = together((ONE, ("load linked", 2, 0), ("store conditional", 3, 0, 1)), (("swap", 2, 0, 0),), memory=(0,))
LOADED = together((("load", 1, 0, 1), ("store", 1, 0, 0)), (ONE, ("load", 2, 0, 0), ("store", 1, 0, 1)),
                  memory=(0, 0))
PROGRAMS = (STORE_BUFFERING, MESSAGE, FENCED, FORWARDING, COHERENCE, LINKED, LOADED)
CHOICES = ((0, False), (1, False), (0, True))


def complete_runs(program, state):
    """All runs with the words 0 and 1 that lead from the state to a core that has halted."""
    if state[2]:
        return [()]
    found = []
    for choice in CHOICES:
        taken = step(program, state, choice)
        if taken is not None:
            found += [(choice,) + rest for rest in complete_runs(program, taken[0])]
    return found


def valid_executions(program, order):
    cores = range(len(program[1]))
    for choices in itertools.product(*[complete_runs(program, start_state(program, core)) for core in cores]):
        for events in itertools.permutations(events_of(program, choices)):
            if check(program, order, (choices, events)) is None:
                yield (choices, events)


def moves(situation):
    for core, view in enumerate(situation[1]):
        for choice in CHOICES:
            for time in range(len(situation[0]) + 2):
                yield ("step", core, choice, time)
        for index in range(len(view[1])):
            yield ("effect", core, index)


def machine_outcomes(program, order):
    """The outcomes of all final situations that any moves reach."""
    found = {first_situation(program)}
    waiting = list(found)
    outcomes = set()
    while waiting:
        situation = waiting.pop()
        if is_final(situation):
            outcomes.add(final_outcome(program, situation))
        for move in moves(situation):
            after = after_move(program, order, situation, move)
            if after is not None and after not in found:
                found.add(after)
                waiting.append(after)
    return outcomes


class ModelsTest(unittest.TestCase):
    def test_executions_and_the_history_machine_have_the_same_outcomes(self):
        for program in PROGRAMS:
            stronger = set()
            for order in ORDERS:
                outcomes = {outcome(program, order, execution) for execution in valid_executions(program, order)}
                self.assertEqual(outcomes, machine_outcomes(program, order), (program, order))
                self.assertLessEqual(stronger, outcomes)
                stronger = outcomes

    def test_how_many_outcomes_each_order_allows(self):
        for program, many in ((STORE_BUFFERING, (3, 4, 4, 4)), (MESSAGE, (3, 3, 4, 4)), (FENCED, (3, 3, 3, 3)),
                              (FORWARDING, (3, 4, 4, 4))):
            self.assertEqual(tuple(len(machine_outcomes(program, order)) for order in ORDERS), many)

    def test_the_communication_of_a_valid_execution(self):
        for program in PROGRAMS:
            for order in ORDERS:
                for choices, events in valid_executions(program, order):
                    communication = communication_of(program, order, (choices, events))
                    self.assertTrue(is_consistent(program, choices, communication))
                    for first, second in must_follow(program, order, choices, communication):
                        self.assertLess(events.index(first), events.index(second))
                    name, arranged = arrange(program, order, choices, communication)
                    self.assertEqual(name, "order")
                    self.assertEqual(communication_of(program, order, (choices, arranged)), communication)
