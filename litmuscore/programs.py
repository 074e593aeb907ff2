"""Programs, the states of their cores, and the steps and runs of a core."""

from litmuscore.tuples import with_item
from litmuscore.words import OPERATIONS, compare, operate

READING = ("load", "swap", "fetch add", "load linked")
ATOMIC_INSTRUCTIONS = ("swap", "fetch add", "load linked", "store conditional")
MEMORY_INSTRUCTIONS = ("load", "store", "swap", "fetch add", "load linked", "store conditional")


def start_state(program, core):
    """The state of the core at the start."""
    return (program[1][core], (0, 0, 0, 0, 0, 0, 0, 0), False, -1)


def memory_address(instruction, registers):
    """The address of a memory instruction, whether or not it is one of memory."""
    base = registers[instruction[2]]
    if instruction[0] in ("load", "store"):
        return (base + instruction[3]) % 65536
    return base


def next_instruction(program, state):
    """The instruction that the next step of a core executes, or None if the step halts the core."""
    code, _, memory = program
    if state[0] >= len(code):
        return None
    instruction = code[state[0]]
    if instruction[0] == "halt":
        return None
    if instruction[0] in MEMORY_INSTRUCTIONS and memory_address(instruction, state[1]) >= len(memory):
        return None
    return instruction


def address_to_read(program, state):
    """The address from which the next step of a core reads a word, or None if it reads none."""
    instruction = next_instruction(program, state)
    if instruction is None or instruction[0] not in READING:
        return None
    return memory_address(instruction, state[1])


def can_succeed(instruction, state):
    """True if the next step executes a store conditional at the link; the instruction is None if it halts."""
    if instruction is None or instruction[0] != "store conditional":
        return False
    return state[3] == memory_address(instruction, state[1])


def is_choice(instruction, state, choice):
    """True if the choice is possible where the next step executes the instruction, or halts if it is None."""
    word, success = choice
    if instruction is not None and instruction[0] in READING:
        return not success
    return word == 0 and (not success or can_succeed(instruction, state))


def with_register(registers, number, word):
    """The registers after the one with this number became the word; register 0 stays 0."""
    if number == 0:
        return registers
    return with_item(registers, number, word)


def result_of(instruction, registers):
    """The word that an operation or addi gives for its destination; None for all other instructions."""
    name = instruction[0]
    if name == "addi":
        return (registers[instruction[2]] + instruction[3]) % 65536
    if name in OPERATIONS:
        return operate(name, registers[instruction[2]], registers[instruction[3]])
    return None


def computed(instruction, registers):
    """The registers after an instruction without access."""
    word = result_of(instruction, registers)
    if word is None:
        return registers
    return with_register(registers, instruction[1], word)


def new_code_address(instruction, pc, registers):
    """The code address after an instruction that lies at pc."""
    if instruction[0] == "jump":
        return instruction[1]
    if instruction[0] == "branch":
        relation, left, right, target = instruction[1:]
        if compare(relation, registers[left], registers[right]):
            return target
    return pc + 1


def access_of(instruction, registers, choice):
    """The access of a step that executes a memory instruction."""
    name = instruction[0]
    address = memory_address(instruction, registers)
    word, success = choice
    if name == "store":
        return (name, address, registers[instruction[1]])
    if name in ("load", "load linked"):
        return (name, address, word)
    given = registers[instruction[3]]
    if name == "store conditional":
        return (name, address, given, success)
    if name == "fetch add":
        return ("atomic", address, word, (word + given) % 65536)
    return ("atomic", address, word, given)


def after_access(instruction, state, choice):
    """The state after a step that executes a memory instruction."""
    pc, registers, halted, link = state
    name = instruction[0]
    word, success = choice
    if name == "store":
        return (pc + 1, registers, halted, link)
    if name == "store conditional":
        word = 0 if success else 1
        link = -1
    if name == "load linked":
        link = memory_address(instruction, registers)
    return (pc + 1, with_register(registers, instruction[1], word), halted, link)


def fence_of(instruction):
    """The fence as which a step acts that executes the instruction, or None."""
    if instruction[0] == "fence" and instruction[1] != "slot":
        return instruction[1]
    return None


def step(program, state, choice):
    """The state after the next step, its access and its fence; None if the choice is not possible."""
    pc, registers, halted, link = state
    instruction = next_instruction(program, state)
    if halted or not is_choice(instruction, state, choice):
        return None
    if instruction is None:
        return ((pc, registers, True, link), None, None)
    if instruction[0] in MEMORY_INSTRUCTIONS:
        return (after_access(instruction, state, choice), access_of(instruction, registers, choice), None)
    after = (new_code_address(instruction, pc, registers), computed(instruction, registers), False, link)
    return (after, None, fence_of(instruction))


def run(program, core, choices):
    """The steps of the longest beginning of the choices that is a run of the core."""
    state = start_state(program, core)
    steps = []
    for choice in choices:
        taken = step(program, state, choice)
        if taken is None:
            break
        steps.append(taken)
        state = taken[0]
    return tuple(steps)
