"""Random programs, and machines that are built from pipelines, commits and a memory system and walk at random."""

import random

from litmuscore.commits import commit, drain, keep_reservation
from litmuscore.configs import Config
from litmuscore.network import coherent_word, deliverable, next_system, start_system
from litmuscore.pipelines import execute, fetch, load, resolve, start_pipeline

OPERATIONS = ("add", "sub", "mul", "and", "or", "xor", "slt", "sltu")


def random_instruction(draw, pc, size, words):
    """An instruction that reads and writes few addresses, and jumps forward only."""
    number, other = draw.randrange(4), draw.randrange(4)
    address = draw.randrange(words + 1) if draw.random() < 0.05 else draw.randrange(words)
    return draw.choice((
        (draw.choice(OPERATIONS), number, other, draw.randrange(4)), ("addi", number, other, draw.randrange(3)),
        ("load", number, 0, address), ("load", number, 0, address), ("load", number, other, address),
        ("store", number, 0, address), ("store", number, 0, address), ("store", number, other, address),
        ("swap", number, 0, other), ("swap", number, other, other), ("fetch add", number, 0, other),
        ("load linked", number, 0), ("store conditional", number, 0, other), ("store conditional", number, other, 1),
        ("fence", draw.choice(("loads", "stores", "full", "slot"))),
        ("branch", draw.choice(("eq", "ne", "lt", "geu")), number, other, draw.randrange(pc + 1, size + 1)),
        ("jump", draw.randrange(pc + 1, size + 1)),
    ))


def random_program(draw, *, cores=2, size=5, words=2):
    """A program whose cores execute pieces of code of this size, each of which begins with an addi."""
    code, entries = (), ()
    for _ in range(cores):
        entries += (len(code),)
        end = len(code) + size
        code += (("addi", 1, 0, draw.randrange(1, 4)),)
        while len(code) < end:
            code += (random_instruction(draw, len(code), end, words),)
        code += (("halt",),)
    return (code, entries, tuple(draw.randrange(3) for _ in range(words)))


KINDS = ("fetch", "execute", "resolve", "load", "load", "commit", "drain", "request", "request", "deliver", "deliver",
         "deliver", "deliver")


class Walk:
    """A machine, put together from its parts, that performs random actions."""

    def __init__(self, program, config, seed):
        self.program, self.config = program, config
        self.draw = random.Random(seed)
        self.cores = range(len(program[1]))
        self.time = 0
        self.pipelines = [start_pipeline(program, core) for core in self.cores]
        self.system = start_system(program, config)
        self.choices = [() for _ in self.cores]
        self.marks = []

    def machine(self):
        return (self.time, tuple(self.pipelines), self.system, tuple(self.choices), tuple(self.marks))

    def finished(self):
        return all(state[2] and not any(entry[0] == "store" for entry in buffer)
                   for state, _, buffer, _, _ in self.pipelines)

    def walk(self, most):
        """Perform random actions until the machine is finished, or until most were tried."""
        for _ in range(most):
            if self.finished():
                return
            self.perform(self.random_action())

    def random_action(self):
        """An action of some kind, which need not be possible."""
        core = self.draw.choice(self.cores)
        kind = "evict" if self.draw.random() < 0.02 else self.draw.choice(KINDS)
        _, entries, buffer, _, _ = self.pipelines[core]
        line = self.draw.randrange(len(self.system[1]))
        if kind == "fetch":
            successor = self.draw.choice((None, self.draw.randrange(len(self.program[0]) + 1)))
            return (kind, core, successor, self.draw.choice((None, self.draw.randrange(3))))
        if kind in ("execute", "resolve", "load"):
            return (kind, core, self.draw.randrange(len(entries) + 1))
        if kind == "commit":
            return (kind, core)
        if kind == "drain":
            return (kind, core, self.draw.randrange(len(buffer) + 1))
        if kind == "request":
            return (kind, core, line, self.draw.random() < 0.6)
        if kind == "evict":
            return (kind, core, line)
        return (kind, self.draw.choice(deliverable(self.system) or (0, 1)))

    def perform(self, action):
        """Perform the action if it is possible; True if it was."""
        possible = getattr(self, action[0])(action)
        if possible:
            self.time += 1
            self.pipelines = [keep_reservation(self.config, self.pipelines[core], self.system[0][core])
                              for core in self.cores]
        return possible

    def replaced(self, core, pipeline):
        if pipeline is not None:
            self.pipelines[core] = pipeline
        return pipeline is not None

    def with_cache(self, core, cache):
        caches = list(self.system[0])
        caches[core] = cache
        self.system = (tuple(caches),) + self.system[1:]

    def fetch(self, action):
        _, core, successor, value = action
        return self.replaced(core, fetch(self.program, self.config, self.pipelines[core], successor, value))

    def execute(self, action):
        return self.replaced(action[1], execute(self.pipelines[action[1]], action[2]))

    def resolve(self, action):
        return self.replaced(action[1], resolve(self.program, self.pipelines[action[1]], action[2]))

    def load(self, action):
        _, core, index = action
        return self.replaced(core, load(self.config, self.pipelines[core], self.system[0][core], index, self.time))

    def commit(self, action):
        core = action[1]
        step = self.pipelines[core][4]
        done = commit(self.config, self.pipelines[core], self.system[0][core], self.time)
        if done is None:
            return False
        self.pipelines[core], cache, choice, mark = done
        self.with_cache(core, cache)
        if choice is not None:
            self.choices[core] += (choice,)
        if mark is not None:
            self.marks.append((mark, core, step))
        return True

    def drain(self, action):
        _, core, index = action
        done = drain(self.config, self.pipelines[core], self.system[0][core], index)
        if done is None:
            return False
        self.pipelines[core], cache, step = done
        self.with_cache(core, cache)
        self.marks.append((self.time, core, step))
        return True

    def in_system(self, action):
        system = next_system(self.config, self.system, action)
        if system is not None:
            self.system = system
        return system is not None

    request = evict = deliver = in_system

    def execution(self):
        return (tuple(self.choices), tuple((core, step) for _, core, step in sorted(self.marks)))

    def outcome(self):
        words = [coherent_word(self.config, self.system, address) for address in range(len(self.program[2]))]
        return (tuple(pipeline[0] for pipeline in self.pipelines), tuple(words))


def random_config(draw, order):
    """A configuration of small sizes."""
    return Config(order, reorder_buffer=draw.choice((1, 2, 4, 6)), store_buffer=draw.choice((1, 2, 3)),
                  line_words=draw.choice((1, 2)), sets=draw.choice((1, 2)), ways=draw.choice((1, 2, 4)),
                  requests=draw.choice((1, 2)), exclusive_state=draw.choice((True, False)))
