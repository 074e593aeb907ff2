"""The service: which action comes next if a core shall proceed, and machines that are run to their end."""

from litmuscore.buffers import waiting
from litmuscore.caches import occupied_ways, row_of
from litmuscore.commits import visible_word
from litmuscore.configs import line_of
from litmuscore.machine import after_action, is_finished
from litmuscore.network import deliverable
from litmuscore.pipelines import is_computed, is_unresolved, readable_word


def obtain(config, machine, core, line, exclusive):
    """The action to obtain the line for the core, for writing if exclusive is True, or None."""
    cache = machine[2][0][core]
    row = row_of(cache[0], line)
    if row is not None:
        return ("request", core, line, True) if exclusive and row[1] == "shared" else None
    number = line % config.sets
    if occupied_ways(config, cache, number) < config.ways:
        return ("request", core, line, exclusive)
    for other, _, _ in cache[0]:
        if other % config.sets == number:
            return ("evict", core, other)
    return None


def obtain_address(config, machine, core, address, exclusive):
    """The action to obtain the line of an address, or None."""
    return obtain(config, machine, core, line_of(config, address), exclusive)


def drain_step(config, machine, core):
    """The action by which the first store of the buffer proceeds, or None."""
    buffer = machine[1][core][2]
    if waiting(buffer[:1]) == 0:
        return None
    action = obtain_address(config, machine, core, buffer[0][1], True)
    return ("drain", core, 0) if action is None else action


def load_step(config, machine, core):
    """The next step of a core whose oldest entry is a load at an address, or None."""
    pipeline = machine[1][core]
    cache = machine[2][0][core]
    _, _, _, _, result, place, _ = pipeline[1][0]
    if result is None:
        if readable_word(config, pipeline, cache, 0) is not None:
            return ("load", core, 0)
        return obtain_address(config, machine, core, place, False)
    if config.order != "wmm" and visible_word(config, pipeline, cache, place) is None:
        return obtain_address(config, machine, core, place, False)
    return ("commit", core)


def store_step(config, machine, core):
    """The next step of a core whose oldest entry is a store at an address, or None."""
    if waiting(machine[1][core][2]) >= config.store_buffer:
        return drain_step(config, machine, core)
    return ("commit", core)


def atomic_step(config, machine, core):
    """The next step of a core whose oldest entry is an atomic instruction at an address, or None."""
    state, entries, buffer, held, _ = machine[1][core]
    _, instruction, _, _, _, place, _ = entries[0]
    if waiting(buffer) > 0:
        return drain_step(config, machine, core)
    fails = instruction[0] == "store conditional" and not (state[3] == place and held)
    action = None
    if not fails:
        action = obtain_address(config, machine, core, place, instruction[0] != "load linked")
    return ("commit", core) if action is None else action


def memory_step(config, machine, core):
    """The next step of a core whose oldest entry is a memory instruction at an address, or None."""
    name = machine[1][core][1][0][1][0]
    if name == "load":
        return load_step(config, machine, core)
    if name == "store":
        return store_step(config, machine, core)
    return atomic_step(config, machine, core)


def entry_step(config, machine, core):
    """The next step of a core that has entries, of which the oldest one counts, or None."""
    _, entries, buffer, _, _ = machine[1][core]
    _, instruction, _, _, result, place, _ = entries[0]
    if instruction is None or place == "outside":
        return ("commit", core)
    if is_unresolved(entries[0]):
        return ("resolve", core, 0)
    if place is not None:
        return memory_step(config, machine, core)
    if is_computed(instruction) and result is None:
        return ("execute", core, 0)
    if instruction == ("fence", "full") and waiting(buffer) > 0:
        return drain_step(config, machine, core)
    return ("commit", core)


def next_step(config, machine, core):
    """The next step of the core, or None."""
    state, entries, buffer, _, _ = machine[1][core]
    if state[2] or (config.order == "sc" and waiting(buffer) > 0):
        return drain_step(config, machine, core)
    if len(entries) == 0:
        return ("fetch", core, None, None)
    return entry_step(config, machine, core)


def next_action(program, config, machine, core):
    """The next action for the core, or None."""
    indices = deliverable(machine[2])
    if len(indices) > 0:
        return ("deliver", indices[0])
    return next_step(config, machine, core)


def is_served(machine, core, steps):
    """True if the core has committed more than so many steps, or has halted and no store of it waits."""
    state, _, buffer, _, committed = machine[1][core]
    return committed > steps or (state[2] and waiting(buffer) == 0)


def serve(program, config, machine, core, *, most=1000):
    """The machine after the service of the core, and the actions that were performed."""
    steps = machine[1][core][4]
    actions = []
    while len(actions) < most and not is_served(machine, core, steps):
        action = next_action(program, config, machine, core)
        after = None if action is None else after_action(program, config, machine, action)
        if after is None:
            break
        machine = after
        actions.append(action)
    return (machine, tuple(actions))


def run_to_end(program, config, machine, *, rounds=60):
    """The machine after it was run to its end, and the actions that were performed."""
    actions = []
    for _ in range(rounds):
        for core in range(len(machine[1])):
            if is_finished(machine):
                return (machine, tuple(actions))
            machine, performed = serve(program, config, machine, core)
            actions.extend(performed)
    return (machine, tuple(actions))
