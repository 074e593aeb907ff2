"""A test case with a machine that actions change."""

from litmuscore.configs import Config
from litmuscore.machine import after_action, start_machine
from litmuscore.network import deliverable
from tests.helpers import Case

KINDS = ("fetch", "execute", "resolve", "load", "commit", "drain", "request", "evict", "deliver")


class MachineCase(Case):
    def begin(self, program, config="tso", **sizes):
        """Begin with the machine of the program and of a configuration, or of an order and sizes."""
        self.program = program
        self.config = Config(config, **sizes) if isinstance(config, str) else config
        self.machine = self.call(start_machine, self.program, self.config)

    def after(self, action):
        return self.call(after_action, self.program, self.config, self.machine, action)

    def go(self, *actions):
        for action in actions:
            self.machine = self.after(action)
            self.assertIsNotNone(self.machine, action)

    def bars(self, *actions):
        for action in actions:
            self.assertIsNone(self.after(action), action)

    def settle(self):
        """Deliver messages as long as one can be delivered."""
        while deliverable(self.machine[2]):
            self.go(("deliver", deliverable(self.machine[2])[0]))

    def gain(self, core, line=0, exclusive=True):
        """Let the core request the line, and deliver all messages."""
        self.go(("request", core, line, exclusive))
        self.settle()

    def fetch(self, core, many=1):
        self.go(*(("fetch", core, None, None),) * many)

    def take(self, core, *, load=False):
        """Fetch, resolve or execute, perhaps load, and commit the only instruction of the core in flight."""
        self.fetch(core)
        instruction = self.entries(core)[0][1]
        name = None if instruction is None else instruction[0]
        if name in ("load", "store", "swap", "fetch add", "load linked", "store conditional"):
            self.go(("resolve", core, 0))
        elif name not in (None, "halt", "fence"):
            self.go(("execute", core, 0))
        if load:
            self.go(("load", core, 0))
        self.go(("commit", core))

    @property
    def time(self):
        return self.machine[0]

    def pipeline(self, core):
        return self.machine[1][core]

    def state(self, core):
        return self.machine[1][core][0]

    def entries(self, core):
        return self.machine[1][core][1]

    def buffer(self, core):
        return self.machine[1][core][2]

    def held(self, core):
        return self.machine[1][core][3]

    def cache(self, core):
        return self.machine[2][0][core]

    def network(self):
        return self.machine[2][3]

    def choices(self):
        return self.machine[3]

    def marks(self):
        return self.machine[4]
