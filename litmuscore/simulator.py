"""Simulators: objects that keep a machine."""

from litmuscore.errors import ActionNotPossible, NotFinished
from litmuscore.machine import after_action, is_finished, machine_outcome, reported, start_machine
from litmuscore.service import run_to_end, serve


class Simulator:
    """Keeps the machine of a program and a configuration, which are never changed."""

    def __init__(self, program, config):
        self.program = program
        self.config = config
        self.machine = start_machine(program, config)

    @property
    def time(self):
        """The time of the machine."""
        return self.machine[0]

    @property
    def finished(self):
        """True if the machine is finished."""
        return is_finished(self.machine)

    def apply(self, action):
        """Perform the action if it is possible, and tell whether it was."""
        after = after_action(self.program, self.config, self.machine, action)
        if after is None:
            return False
        self.machine = after
        return True

    def perform(self, actions):
        """Perform all actions, or nothing: ActionNotPossible tells the first one that is not possible."""
        machine = self.machine
        for place, action in enumerate(actions):
            machine = after_action(self.program, self.config, machine, action)
            if machine is None:
                raise ActionNotPossible(place)
        self.machine = machine

    def serve(self, core, *, most=1000):
        """Serve the core; the actions that are performed."""
        self.machine, actions = serve(self.program, self.config, self.machine, core, most=most)
        return actions

    def run_to_end(self, *, rounds=60):
        """Run the machine to its end; the actions that are performed."""
        self.machine, actions = run_to_end(self.program, self.config, self.machine, rounds=rounds)
        return actions

    def execution(self):
        """The execution that the machine reports."""
        return reported(self.machine)

    def outcome(self):
        """The outcome of the machine, which is finished; otherwise NotFinished is raised."""
        if not is_finished(self.machine):
            raise NotFinished("the machine is not finished")
        return machine_outcome(self.config, self.machine)
