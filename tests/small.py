"""Small programs, and all of their valid executions."""

import itertools

from litmuscore.executions import check, events_of
from litmuscore.programs import start_state, step
from tests.helpers import STORE_BUFFERING, together

ONE = ("addi", 1, 0, 1)
MESSAGE = together((ONE, ("store", 1, 0, 0), ("store", 1, 0, 1)), (("load", 1, 0, 1), ("load", 2, 0, 0)),
                   memory=(0, 0))
FENCED = together((ONE, ("store", 1, 0, 0), ("fence", "stores"), ("store", 1, 0, 1)),
                  (("load", 1, 0, 1), ("fence", "loads"), ("load", 2, 0, 0)), memory=(0, 0))
FORWARDING = together((ONE, ("store", 1, 0, 0), ("load", 2, 0, 0), ("load", 3, 0, 1)),
                      (ONE, ("store", 1, 0, 1), ("load", 3, 0, 0)), memory=(0, 0))
COHERENCE = together((("load", 1, 0, 0), ("load", 2, 0, 0)), (ONE, ("store", 1, 0, 0), ("store", 0, 0, 0)),
                     memory=(1,))
LINKED = together((ONE, ("load linked", 2, 0), ("store conditional", 3, 0, 1)), (("swap", 2, 0, 0),), memory=(0,))
LOADED = together((("load", 1, 0, 1), ("store", 1, 0, 0)), (ONE, ("load", 2, 0, 0), ("store", 1, 0, 1)),
                  memory=(0, 0))
PROGRAMS = (STORE_BUFFERING, MESSAGE, FENCED, FORWARDING, COHERENCE, LINKED, LOADED)
CHOICES = ((0, False), (1, False), (0, True))


def complete_runs(program, state):
    """All runs with the words 0 and 1 that lead from the state to a core that has halted."""
    if state[2]:
        return [()]
    found = []
    for choice in CHOICES:
        taken = step(program, state, choice)
        if taken is not None:
            found += [(choice,) + rest for rest in complete_runs(program, taken[0])]
    return found


def valid_executions(program, order):
    cores = range(len(program[1]))
    for choices in itertools.product(*[complete_runs(program, start_state(program, core)) for core in cores]):
        for events in itertools.permutations(events_of(program, choices)):
            if check(program, order, (choices, events)) is None:
                yield (choices, events)
