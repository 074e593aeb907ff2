"""Realization: the actions by which a machine performs a given execution."""

from litmuscore.configs import Config, line_of
from litmuscore.executions import require_valid
from litmuscore.network import deliverable
from litmuscore.pipelines import instruction_at, is_computed, is_unresolved, name_of
from litmuscore.programs import start_state
from litmuscore.runs import runs_of
from litmuscore.service import obtain
from litmuscore.simulator import Simulator


def fitting_config(program, order, runs):
    """The configuration of a machine with room for everything that runs of these steps have in flight."""
    room = 1 + max([len(steps) for steps in runs])
    return Config(order, reorder_buffer=room, store_buffer=room, line_words=1, sets=1, ways=len(program[2]),
                  requests=1, exclusive_state=False)


def given_word(access):
    """The word that a step with this access gives for its destination, or None if it gives none."""
    if access is None or access[0] == "store":
        return None
    if access[0] == "store conditional":
        return 0 if access[3] else 1
    return access[2]


def index_of_store(buffer, number):
    """The index of the store of the step with this number in a store buffer, in which it waits."""
    return [entry[3] if entry[0] == "store" else None for entry in buffer].index(number)


class Realizer:
    """A machine that is led through given runs, and the actions that it has performed."""

    def __init__(self, program, config, runs):
        self.simulator = Simulator(program, config)
        self.runs = runs
        self.actions = []

    def pipeline(self, core):
        """The pipeline of the core as it is now."""
        return self.simulator.machine[1][core]

    def emit(self, action):
        """Perform the action and note it, if it is possible; True if it is."""
        possible = self.simulator.apply(action)
        if possible:
            self.actions.append(action)
        return possible

    def settle(self):
        """Deliver all messages."""
        indices = deliverable(self.simulator.machine[2])
        while len(indices) > 0:
            self.emit(("deliver", indices[0]))
            indices = deliverable(self.simulator.machine[2])

    def acquire(self, core, address, exclusive):
        """Obtain the line of the address for the core, for writing if exclusive is True."""
        config = self.simulator.config
        line = line_of(config, address)
        action = obtain(config, self.simulator.machine, core, line, exclusive)
        while action is not None and self.emit(action):
            self.settle()
            action = obtain(config, self.simulator.machine, core, line, exclusive)

    def fetch_action(self, core, number):
        """The action by which the core fetches the step with this number and predicts all of it rightly."""
        program = self.simulator.program
        steps = self.runs[core]
        before = steps[number - 1][0] if number > 0 else start_state(program, core)
        after, access, _ = steps[number]
        is_branch = name_of(instruction_at(program, before[0])) == "branch"
        return ("fetch", core, after[0] if is_branch else None, given_word(access))

    def fetch_to(self, core, number):
        """Fetch all steps up to the one with this number."""
        _, entries, _, _, committed = self.pipeline(core)
        for coming in range(committed + len(entries), min(number + 1, len(self.runs[core]))):
            self.emit(self.fetch_action(core, coming))

    def prepare(self, core, index):
        """Execute or resolve all entries up to this index that need it."""
        for older in range(min(index + 1, len(self.pipeline(core)[1]))):
            entry = self.pipeline(core)[1][older]
            if is_computed(entry[1]) and entry[4] is None:
                self.emit(("execute", core, older))
            if is_unresolved(entry):
                self.emit(("resolve", core, older))

    def may_advance(self, core, number):
        """True if the step with this number need not wait for its event to be committed."""
        access = self.runs[core][number][1]
        if access is None or access[0] == "store":
            return True
        return access[0] == "load" and self.simulator.config.order == "wmm"

    def advance(self, core, number):
        """Commit the steps before the one with this number, as far as they need not wait for their events."""
        committed = self.pipeline(core)[4]
        while committed < number:
            self.fetch_to(core, committed)
            self.prepare(core, 0)
            if not self.may_advance(core, committed) or not self.emit(("commit", core)):
                return
            committed = self.pipeline(core)[4]

    def drain(self, core, number):
        """Let the store of the step with this number take effect."""
        address = self.runs[core][number][1][1]
        self.advance(core, number + 1)
        self.acquire(core, address, True)
        self.emit(("drain", core, index_of_store(self.pipeline(core)[2], number)))

    def lose_reservation(self, core, address):
        """Make sure that a store conditional at the address fails."""
        state, _, _, held, _ = self.pipeline(core)
        if state[3] == address and held:
            self.emit(("evict", core, line_of(self.simulator.config, address)))
            self.settle()

    def access_memory(self, core, number):
        """Let the load or the atomic instruction of the step with this number take effect."""
        access = self.runs[core][number][1]
        self.advance(core, number)
        self.fetch_to(core, number)
        index = number - self.pipeline(core)[4]
        self.prepare(core, index)
        if access[0] == "store conditional" and not access[3]:
            self.lose_reservation(core, access[1])
        else:
            self.acquire(core, access[1], access[0] not in ("load", "load linked"))
        if access[0] == "load":
            self.emit(("load", core, index))
        if access[0] != "load" or self.simulator.config.order != "wmm":
            self.emit(("commit", core))

    def perform(self, event):
        """Let the event take effect."""
        core, number = event
        if self.runs[core][number][1][0] == "store":
            self.drain(core, number)
        else:
            self.access_memory(core, number)


def realize(program, order, execution):
    """A configuration, and the actions by which its machine performs the execution, which is valid."""
    require_valid(program, order, execution)
    choices, events = execution
    runs = runs_of(program, choices)
    config = fitting_config(program, order, runs)
    realizer = Realizer(program, config, runs)
    for event in events:
        realizer.perform(event)
    for core in range(len(runs)):
        realizer.advance(core, len(runs[core]))
    return (config, tuple(realizer.actions))
