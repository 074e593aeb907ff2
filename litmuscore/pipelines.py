"""Pipelines: the instructions of a core that are in flight, fetched ahead and executed out of order."""

from litmuscore.buffers import newest_word
from litmuscore.caches import read_word
from litmuscore.programs import ATOMIC_INSTRUCTIONS, MEMORY_INSTRUCTIONS
from litmuscore.programs import memory_address, new_code_address, result_of, start_state
from litmuscore.words import OPERATIONS

WITH_DESTINATION = ("addi", "load", "swap", "fetch add", "load linked", "store conditional")


def start_pipeline(program, core):
    """The pipeline of the core at the start."""
    return (start_state(program, core), (), (), False, 0)


def name_of(instruction):
    """The first word of an instruction; None where there is no instruction."""
    return None if instruction is None else instruction[0]


def is_computed(instruction):
    """True for an operation, addi, a branch and a jump."""
    name = name_of(instruction)
    return name in OPERATIONS or name in ("addi", "branch", "jump")


def instruction_at(program, pc):
    """The instruction at the code address, or None outside of the code."""
    code = program[0]
    return code[pc] if pc < len(code) else None


def predicted(program, pc, successor, value):
    """The predicted successor and the predicted result of the instruction at the code address pc."""
    instruction = instruction_at(program, pc)
    name = name_of(instruction)
    following = pc + 1
    if name == "jump":
        following = instruction[1]
    if name == "branch" and successor is not None:
        following = successor
    result = value if name == "load" or name in ATOMIC_INSTRUCTIONS else None
    return (following, result)


def destination(instruction):
    """The register that an instruction changes; None if it has no destination, or register 0."""
    name = name_of(instruction)
    if name not in OPERATIONS and name not in WITH_DESTINATION:
        return None
    return None if instruction[1] == 0 else instruction[1]


def operand(pipeline, index, number):
    """The operand of the entry with this index for the register with this number, or None if it is unknown."""
    if number == 0:
        return 0
    state, entries, _, _, _ = pipeline
    for _, instruction, _, guess, result, _, _ in reversed(entries[:index]):
        if destination(instruction) == number:
            return guess if result is None else result
    return state[1][number]


def operands(pipeline, index, numbers):
    """Registers with the operands of the entry for those with these numbers, or None if one is unknown."""
    registers = [0, 0, 0, 0, 0, 0, 0, 0]
    for number in numbers:
        word = operand(pipeline, index, number)
        if word is None:
            return None
        registers[number] = word
    return registers


def with_entries(pipeline, entries):
    """The pipeline with other entries."""
    state, _, buffer, held, steps = pipeline
    return (state, entries, buffer, held, steps)


def with_entry(pipeline, index, entry, right):
    """The pipeline with another entry at the index, which removes all younger ones unless it turned out right."""
    entries = pipeline[1]
    younger = entries[index + 1:] if right else ()
    return with_entries(pipeline, entries[:index] + (entry,) + younger)


def fetch(program, config, pipeline, successor, value):
    """The pipeline after the next instruction was fetched, or None."""
    state, entries, _, _, _ = pipeline
    if state[2] or len(entries) >= config.reorder_buffer:
        return None
    pc = entries[-1][2] if entries else state[0]
    following, guess = predicted(program, pc, successor, value)
    entry = (pc, instruction_at(program, pc), following, guess, None, None, None)
    return with_entries(pipeline, entries + (entry,))


def numbers_read(instruction):
    """The registers that an operation, addi, a branch or a jump reads."""
    name = instruction[0]
    if name == "jump":
        return ()
    if name == "addi":
        return (instruction[2],)
    return (instruction[2], instruction[3])


def execute(pipeline, index):
    """The pipeline after the entry with this index was executed, or None."""
    entries = pipeline[1]
    if index >= len(entries):
        return None
    pc, instruction, successor, guess, result, place, time = entries[index]
    if result is not None or not is_computed(instruction):
        return None
    registers = operands(pipeline, index, numbers_read(instruction))
    if registers is None:
        return None
    result = result_of(instruction, registers)
    if result is None:
        result = 0
    actual = new_code_address(instruction, pc, registers)
    return with_entry(pipeline, index, (pc, instruction, actual, guess, result, place, time), actual == successor)


def is_unresolved(entry):
    """True for a memory instruction whose place is not known yet."""
    return name_of(entry[1]) in MEMORY_INSTRUCTIONS and entry[5] is None


def resolve(program, pipeline, index):
    """The pipeline after the entry with this index was resolved, or None."""
    entries = pipeline[1]
    if index >= len(entries) or not is_unresolved(entries[index]):
        return None
    if any([is_unresolved(entry) for entry in entries[:index]]):
        return None
    pc, instruction, successor, guess, result, _, time = entries[index]
    registers = operands(pipeline, index, (instruction[2],))
    if registers is None:
        return None
    place = memory_address(instruction, registers)
    if place >= len(program[2]):
        place = "outside"
    return with_entry(pipeline, index, (pc, instruction, successor, guess, result, place, time), True)


def load_address(pipeline, index):
    """The address of the load in the entry with this index; None if there is no such load, entry or address."""
    entries = pipeline[1]
    if index >= len(entries) or name_of(entries[index][1]) != "load" or entries[index][5] == "outside":
        return None
    return entries[index][5]


def readable_word(config, pipeline, cache, index):
    """The readable word of a load in flight, or None if it is unknown."""
    address = load_address(pipeline, index)
    if address is None:
        return None
    entries = pipeline[1]
    for older in reversed(range(index)):
        instruction = entries[older][1]
        if name_of(instruction) == "store" and entries[older][5] == address:
            return operand(pipeline, older, instruction[1])
    word = newest_word(pipeline[2], address)
    return read_word(config, cache, address) if word is None else word


def holds_back(entry, address):
    """True if an older entry does not let a load of the address be loaded."""
    _, instruction, _, _, result, place, _ = entry
    name = name_of(instruction)
    if name == "fence":
        return instruction[1] in ("loads", "full")
    if name == "load":
        return place == address and result is None
    return name in ATOMIC_INSTRUCTIONS and place == address


def load(config, pipeline, cache, index, time):
    """The pipeline after the load in the entry with this index has read its word at the time, or None."""
    word = readable_word(config, pipeline, cache, index)
    if word is None:
        return None
    entries = pipeline[1]
    pc, instruction, successor, guess, result, place, _ = entries[index]
    if result is not None or any([holds_back(entry, place) for entry in entries[:index]]):
        return None
    loaded = (pc, instruction, successor, guess, word, place, time)
    return with_entry(pipeline, index, loaded, guess is None or guess == word)
