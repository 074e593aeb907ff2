"""Pipelines for tests: a piece of code, of which some instructions are in flight."""

from litmuscore.configs import Config
from tests.helpers import ORDERS, registers

CONFIGS = {order: Config(order) for order in ORDERS}
TSO = CONFIGS["tso"]
EMPTY = ((), (), ())


def program_of(*code, memory=(0, 0, 0)):
    return (code, (0,), memory)


def entry(pc, instruction, successor=None, *, predicted=None, result=None, place=None, time=None):
    """An entry, whose successor is the next code address if it is not told."""
    return (pc, instruction, pc + 1 if successor is None else successor, predicted, result, place, time)


def in_flight(*parts):
    """Entries for instructions that follow each other; a part is an instruction, or a pair of it and what is told."""
    entries = []
    for pc, part in enumerate(parts):
        instruction, told = part if len(part) == 2 and isinstance(part[1], dict) else (part, {})
        entries.append(entry(pc, instruction, **told))
    return tuple(entries)


def pipeline_of(entries, *, pc=0, halted=False, link=-1, buffer=(), held=False, steps=9, **words):
    """A pipeline with these entries and words in registers, which has committed some steps."""
    return ((pc, registers(**words), halted, link), tuple(entries), buffer, held, steps)


def replaced(pipeline, index, **told):
    """The pipeline with another entry at the index: result, place, time or successor are replaced."""
    names = ("pc", "instruction", "successor", "predicted", "result", "place", "time")
    state, entries, buffer, held, steps = pipeline
    changed = dict(zip(names, entries[index]), **told)
    return (state, entries[:index] + (tuple(changed.values()),) + entries[index + 1:], buffer, held, steps)


def cut(pipeline, many):
    """The pipeline with the oldest entries alone."""
    return (pipeline[0], pipeline[1][:many], *pipeline[2:])


def cache_of(*lines):
    return (tuple(lines), (), ())
