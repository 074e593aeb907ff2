"""Interleaving: the cores of a program run one step at a time over one memory."""

from litmuscore.accesses import is_write, stored_word
from litmuscore.programs import address_to_read, start_state, step


def choice_of_turn(program, state, memory, success):
    """The choice of the next step of a core, if the turn is possible."""
    address = address_to_read(program, state)
    if address is None:
        return (0, success)
    return (memory[address], success)


def lose_links(states, lost, core, address):
    """Note in lost that the core has written to the address for all other cores that have linked it."""
    for other in range(len(states)):
        if other != core and states[other][3] == address:
            lost[other] = True


def interleave(program, turns):
    """The execution that the turns make, or None if one of them is not possible."""
    cores = range(len(program[1]))
    memory = list(program[2])
    states = [start_state(program, core) for core in cores]
    lost = [False for _ in cores]
    choices = [[] for _ in cores]
    events = []
    for core, success in turns:
        choice = choice_of_turn(program, states[core], memory, success)
        taken = step(program, states[core], choice)
        if taken is None or (success and lost[core]):
            return None
        state, access, _ = taken
        states[core] = state
        if access is not None:
            events.append((core, len(choices[core])))
        choices[core].append(choice)
        if access is not None and access[0] == "load linked":
            lost[core] = False
        if access is not None and is_write(access):
            memory[access[1]] = stored_word(access)
            lose_links(states, lost, core, access[1])
    return (tuple([tuple(row) for row in choices]), tuple(events))
