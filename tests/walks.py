"""Random programs, and machines that are built from pipelines, commits and a memory system and walk at random."""

import random

from litmuscore.commits import commit, drain, keep_reservation
from litmuscore.network import coherent_word, deliverable, next_system, start_system
from litmuscore.pipelines import execute, fetch, load, resolve, start_pipeline

OPERATIONS = ("add", "sub", "mul", "and", "or", "xor", "slt", "sltu")


def random_instruction(draw, pc, size, words):
    """An instruction that reads and writes few addresses, and jumps forward only."""
    number, other = draw.randrange(4), draw.randrange(4)
    address = draw.randrange(words + 1) if draw.random() < 0.05 else draw.randrange(words)
    return draw.choice((
        (draw.choice(OPERATIONS), number, other, draw.randrange(4)), ("addi", number, other, draw.randrange(3)),
        ("load", number, 0, address), ("load", number, 0, address), ("load", number, other, address),
        ("store", number, 0, address), ("store", number, 0, address), ("store", number, other, address),
        ("swap", number, 0, other), ("swap", number, other, other), ("fetch add", number, 0, other),
        ("load linked", number, 0), ("store conditional", number, 0, other), ("store conditional", number, other, 1),
        ("fence", draw.choice(("loads", "stores", "full", "slot"))),
        ("branch", draw.choice(("eq", "ne", "lt", "geu")), number, other, draw.randrange(pc + 1, size + 1)),
        ("jump", draw.randrange(pc + 1, size + 1)),
    ))


def random_program(draw, *, cores=2, size=5, words=2):
    """A program whose cores execute pieces of code of this size, each of which begins with an addi."""
    code, entries = (), ()
    for _ in range(cores):
        entries += (len(code),)
        end = len(code) + size
        code += (("addi", 1, 0, draw.randrange(1, 4)),)
        while len(code) < end:
            code += (random_instruction(draw, len(code), end, words),)
        code += (("halt",),)
    return (code, entries, tuple(draw.randrange(3) for _ in range(words)))


class Walk:
    """A machine that performs random actions; what it reports must be a valid execution."""

    def __init__(self, program, config, seed):
        self.program, self.config = program, config
        self.draw = random.Random(seed)
        self.cores = range(len(program[1]))
        self.time = 0
        self.pipelines = [start_pipeline(program, core) for core in self.cores]
        self.system = start_system(program, config)
        self.choices = [() for _ in self.cores]
        self.marks = []
        self.memory = list(program[2])

    def finished(self):
        return all(state[2] and not any(entry[0] == "store" for entry in buffer)
                   for state, _, buffer, _, _ in self.pipelines)

    def walk(self, most):
        """Perform random actions until the machine is finished, or until most were tried."""
        kinds = (self.fetch, self.execute, self.resolve, self.load, self.load, self.commit, self.drain, self.request,
                 self.request, self.deliver, self.deliver, self.deliver, self.deliver)
        for _ in range(most):
            if self.finished():
                return
            act = self.evict if self.draw.random() < 0.02 else self.draw.choice(kinds)
            if act(self.draw.choice(self.cores)):
                self.time += 1
                self.pipelines = [keep_reservation(self.config, self.pipelines[core], self.system[0][core])
                                  for core in self.cores]

    def replaced(self, core, pipeline):
        if pipeline is not None:
            self.pipelines[core] = pipeline
        return pipeline is not None

    def with_cache(self, core, cache):
        caches = list(self.system[0])
        caches[core] = cache
        self.system = (tuple(caches),) + self.system[1:]

    def fetch(self, core):
        successor = self.draw.choice((None, self.draw.randrange(len(self.program[0]) + 1)))
        value = self.draw.choice((None, self.draw.randrange(3)))
        return self.replaced(core, fetch(self.program, self.config, self.pipelines[core], successor, value))

    def index(self, core):
        return self.draw.randrange(len(self.pipelines[core][1]) + 1)

    def execute(self, core):
        return self.replaced(core, execute(self.pipelines[core], self.index(core)))

    def resolve(self, core):
        return self.replaced(core, resolve(self.program, self.pipelines[core], self.index(core)))

    def load(self, core):
        cache = self.system[0][core]
        return self.replaced(core, load(self.config, self.pipelines[core], cache, self.index(core), self.time))

    def commit(self, core):
        step = self.pipelines[core][4]
        done = commit(self.config, self.pipelines[core], self.system[0][core], self.time)
        if done is None:
            return False
        self.pipelines[core], cache, choice, mark = done
        self.with_cache(core, cache)
        if choice is not None:
            self.choices[core] += (choice,)
        if mark is not None:
            self.marks.append((mark, core, step))
        return True

    def drain(self, core):
        index = self.draw.randrange(len(self.pipelines[core][2]) + 1)
        done = drain(self.config, self.pipelines[core], self.system[0][core], index)
        if done is None:
            return False
        self.pipelines[core], cache, step = done
        self.with_cache(core, cache)
        self.marks.append((self.time, core, step))
        return True

    def moved(self, system):
        if system is not None:
            self.system = system
        return system is not None

    def request(self, core):
        line = self.draw.randrange(len(self.system[1]))
        return self.moved(next_system(self.config, self.system, ("request", core, line, self.draw.random() < 0.6)))

    def evict(self, core):
        line = self.draw.randrange(len(self.system[1]))
        return self.moved(next_system(self.config, self.system, ("evict", core, line)))

    def deliver(self, core):
        indices = deliverable(self.system)
        return bool(indices) and self.moved(
            next_system(self.config, self.system, ("deliver", self.draw.choice(indices))))

    def execution(self):
        return (tuple(self.choices), tuple((core, step) for _, core, step in sorted(self.marks)))

    def outcome(self):
        words = [coherent_word(self.config, self.system, address) for address in range(len(self.program[2]))]
        return (tuple(pipeline[0] for pipeline in self.pipelines), tuple(words))
