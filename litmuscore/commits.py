"""Commit: the oldest instruction in flight takes its step, and waiting stores drain into the cache."""

from litmuscore.buffers import may_leave, newest_word, waiting, with_fence, without
from litmuscore.caches import can_write, read_word, write_word
from litmuscore.pipelines import destination, is_computed, is_unresolved, name_of, with_entries
from litmuscore.programs import with_register

PLAIN = (0, False)


def visible_word(config, pipeline, cache, address):
    """The visible word at the address, or None if it is unknown."""
    word = newest_word(pipeline[2], address)
    return read_word(config, cache, address) if word is None else word


def with_step(pipeline, state, buffer, held):
    """The pipeline after a step that was committed, with the state and the buffer that it leaves."""
    _, entries, _, _, steps = pipeline
    return (state, entries[1:], buffer, held, steps + 1)


def next_state(state, instruction, word):
    """The state at the next code address, after the destination of the instruction, if any, became the word."""
    pc, registers, halted, link = state
    number = destination(instruction)
    if number is not None:
        registers = with_register(registers, number, word)
    return (pc + 1, registers, halted, link)


def commit_halt(config, pipeline, cache, time):
    """What commit returns for a step that halts the core."""
    (pc, registers, _, link), entries, buffer, held, _ = pipeline
    alone = with_entries(pipeline, entries[:1])
    return (with_step(alone, (pc, registers, True, link), buffer, held), cache, PLAIN, None)


def commit_computed(config, pipeline, cache, time):
    """What commit returns for an operation, addi, a branch or a jump."""
    state, entries, buffer, held, _ = pipeline
    _, instruction, successor, _, result, _, _ = entries[0]
    if result is None:
        return None
    _, registers, halted, link = next_state(state, instruction, result)
    return (with_step(pipeline, (successor, registers, halted, link), buffer, held), cache, PLAIN, None)


def commit_fence(config, pipeline, cache, time):
    """What commit returns for a fence."""
    state, entries, buffer, held, _ = pipeline
    instruction = entries[0][1]
    if instruction[1] == "full" and waiting(buffer) > 0:
        return None
    if instruction[1] == "stores":
        buffer = with_fence(buffer)
    return (with_step(pipeline, next_state(state, instruction, 0), buffer, held), cache, PLAIN, None)


def commit_load(config, pipeline, cache, time):
    """What commit returns for a load."""
    state, entries, buffer, held, _ = pipeline
    _, instruction, _, _, result, place, loaded = entries[0]
    if result is None:
        return None
    if config.order != "wmm":
        word = visible_word(config, pipeline, cache, place)
        if word is None:
            return None
        if word != result:
            return (with_entries(pipeline, ()), cache, None, None)
        loaded = time
    return (with_step(pipeline, next_state(state, instruction, result), buffer, held), cache, (result, False), loaded)


def commit_store(config, pipeline, cache, time):
    """What commit returns for a store."""
    state, entries, buffer, held, steps = pipeline
    _, instruction, _, _, _, place, _ = entries[0]
    if waiting(buffer) >= config.store_buffer:
        return None
    buffer = buffer + (("store", place, state[1][instruction[1]], steps),)
    return (with_step(pipeline, next_state(state, instruction, 0), buffer, held), cache, PLAIN, None)


def access_exchange(config, pipeline, cache):
    """What access_atomic returns for a swap and a fetch add."""
    state, entries, _, held, _ = pipeline
    _, instruction, _, _, _, place, _ = entries[0]
    if not can_write(config, cache, place):
        return None
    word = read_word(config, cache, place)
    stored = state[1][instruction[3]]
    if instruction[0] == "fetch add":
        stored = (word + stored) % 65536
    return (write_word(config, cache, place, stored), word, (word, False), state[3], held)


def access_linked(config, pipeline, cache):
    """What access_atomic returns for a load linked."""
    place = pipeline[1][0][5]
    word = read_word(config, cache, place)
    if word is None:
        return None
    return (cache, word, (word, False), place, True)


def access_conditional(config, pipeline, cache):
    """What access_atomic returns for a store conditional."""
    state, entries, _, held, _ = pipeline
    _, instruction, _, _, _, place, _ = entries[0]
    if place != state[3] or not held:
        return (cache, 1, PLAIN, -1, False)
    stored = write_word(config, cache, place, state[1][instruction[3]])
    if stored is None:
        return None
    return (stored, 0, (0, True), -1, False)


ACCESSES = {
    "swap": access_exchange,
    "fetch add": access_exchange,
    "load linked": access_linked,
    "store conditional": access_conditional,
}


def access_atomic(config, pipeline, cache):
    """The cache, the word for the destination, the choice, the link and held after an atomic instruction, or None."""
    access = ACCESSES[pipeline[1][0][1][0]]
    return access(config, pipeline, cache)


def commit_atomic(config, pipeline, cache, time):
    """What commit returns for an atomic instruction."""
    state, entries, buffer, _, _ = pipeline
    _, instruction, _, guess, _, _, _ = entries[0]
    accessed = None if waiting(buffer) > 0 else access_atomic(config, pipeline, cache)
    if accessed is None:
        return None
    cache, word, choice, link, held = accessed
    if guess is not None and guess != word:
        pipeline = with_entries(pipeline, entries[:1])
    pc, registers, halted, _ = next_state(state, instruction, word)
    return (with_step(pipeline, (pc, registers, halted, link), buffer, held), cache, choice, time)


def commit(config, pipeline, cache, time):
    """The pipeline, the cache, the choice and the mark after a commit at the time; None if it is not possible."""
    _, entries, buffer, _, _ = pipeline
    if len(entries) == 0 or (config.order == "sc" and waiting(buffer) > 0):
        return None
    name = name_of(entries[0][1])
    if name is None or name == "halt" or entries[0][5] == "outside":
        return commit_halt(config, pipeline, cache, time)
    if is_unresolved(entries[0]):
        return None
    if is_computed(entries[0][1]):
        return commit_computed(config, pipeline, cache, time)
    if name == "fence":
        return commit_fence(config, pipeline, cache, time)
    if name == "load":
        return commit_load(config, pipeline, cache, time)
    if name == "store":
        return commit_store(config, pipeline, cache, time)
    return commit_atomic(config, pipeline, cache, time)


def drain(config, pipeline, cache, index):
    """The pipeline, the cache and the step of the store after it has left the buffer; None if it cannot."""
    state, entries, buffer, held, steps = pipeline
    if not may_leave(config.order, buffer, index):
        return None
    _, address, word, number = buffer[index]
    cache = write_word(config, cache, address, word)
    if cache is None:
        return None
    return ((state, entries, without(buffer, index), held, steps), cache, number)


def keep_reservation(config, pipeline, cache):
    """The pipeline, in which the reservation is lost if the link cannot be read in the cache."""
    state, entries, buffer, held, steps = pipeline
    if state[3] != -1 and read_word(config, cache, state[3]) is None:
        held = False
    return (state, entries, buffer, held, steps)
