"""Machines: pipelines over a memory system, which proceed by actions and record what their cores do."""

from litmuscore.buffers import waiting
from litmuscore.commits import commit, drain, keep_reservation
from litmuscore.network import coherent_word, next_system, start_system, with_cache
from litmuscore.pipelines import execute, fetch, load, resolve, start_pipeline
from litmuscore.tuples import with_item


def start_machine(program, config):
    """The machine at its start."""
    cores = range(len(program[1]))
    pipelines = tuple([start_pipeline(program, core) for core in cores])
    return (0, pipelines, start_system(program, config), tuple([() for _ in cores]), ())


def with_pipeline(machine, core, pipeline):
    """The machine with another pipeline of the core; None if there is none."""
    if pipeline is None:
        return None
    time, pipelines, system, choices, marks = machine
    return (time, with_item(pipelines, core, pipeline), system, choices, marks)


def after_fetch(program, config, machine, action):
    """The machine after the core has fetched, or None if this is not possible."""
    _, core, successor, value = action
    return with_pipeline(machine, core, fetch(program, config, machine[1][core], successor, value))


def after_execute(program, config, machine, action):
    """The machine after the core has executed an entry, or None if this is not possible."""
    _, core, index = action
    return with_pipeline(machine, core, execute(machine[1][core], index))


def after_resolve(program, config, machine, action):
    """The machine after the core has resolved an entry, or None if this is not possible."""
    _, core, index = action
    return with_pipeline(machine, core, resolve(program, machine[1][core], index))


def after_load(program, config, machine, action):
    """The machine after the core has loaded an entry, or None if this is not possible."""
    _, core, index = action
    time, pipelines, system, _, _ = machine
    return with_pipeline(machine, core, load(config, pipelines[core], system[0][core], index, time))


def after_commit(program, config, machine, action):
    """The machine after the core has committed, or None if this is not possible."""
    time, pipelines, system, choices, marks = machine
    core = action[1]
    done = commit(config, pipelines[core], system[0][core], time)
    if done is None:
        return None
    pipeline, cache, choice, mark = done
    if choice is not None:
        choices = with_item(choices, core, choices[core] + (choice,))
    if mark is not None:
        marks = marks + ((mark, core, pipelines[core][4]),)
    return (time, with_item(pipelines, core, pipeline), with_cache(system, core, (cache, ())), choices, marks)


def after_drain(program, config, machine, action):
    """The machine after the core has drained a store, or None if this is not possible."""
    time, pipelines, system, choices, marks = machine
    _, core, index = action
    done = drain(config, pipelines[core], system[0][core], index)
    if done is None:
        return None
    pipeline, cache, step = done
    marks = marks + ((time, core, step),)
    return (time, with_item(pipelines, core, pipeline), with_cache(system, core, (cache, ())), choices, marks)


CORE_ACTIONS = {
    "fetch": after_fetch,
    "execute": after_execute,
    "resolve": after_resolve,
    "load": after_load,
    "commit": after_commit,
    "drain": after_drain,
}


def with_effect(program, config, machine, action):
    """The machine after what the action does, or None if this is not possible; the time is that before it."""
    time, pipelines, system, choices, marks = machine
    if action[0] not in CORE_ACTIONS:
        changed = next_system(config, system, action)
        return None if changed is None else (time, pipelines, changed, choices, marks)
    if action[1] >= len(pipelines):
        return None
    act = CORE_ACTIONS[action[0]]
    return act(program, config, machine, action)


def after_action(program, config, machine, action):
    """The machine after the action, or None if the action is not possible."""
    after = with_effect(program, config, machine, action)
    if after is None:
        return None
    time, pipelines, system, choices, marks = after
    kept = [keep_reservation(config, pipeline, system[0][core]) for core, pipeline in enumerate(pipelines)]
    return (time + 1, tuple(kept), system, choices, marks)


def listed_actions(machine):
    """The actions that name what exists, in order; of the fetches those alone that predict nothing."""
    _, pipelines, (_, homes, _, network), _, _ = machine
    cores = range(len(pipelines))
    lines = range(len(homes))
    actions = [("fetch", core, None, None) for core in cores]
    for name in ("execute", "resolve", "load"):
        actions.extend([(name, core, index) for core in cores for index in range(len(pipelines[core][1]))])
    actions.extend([("commit", core) for core in cores])
    actions.extend([("drain", core, index) for core in cores for index in range(len(pipelines[core][2]))])
    for core in cores:
        actions.extend([("request", core, line, exclusive) for line in lines for exclusive in (False, True)])
    actions.extend([("evict", core, line) for core in cores for line in lines])
    actions.extend([("deliver", index) for index in range(len(network))])
    return actions


def possible_actions(program, config, machine):
    """The tuple of the possible actions, in order; of the fetches those alone that predict nothing."""
    return tuple([
        action
        for action in listed_actions(machine)
        if after_action(program, config, machine, action) is not None
    ])


def is_finished(machine):
    """True if all cores have halted and no store waits."""
    return all([state[2] and waiting(buffer) == 0 for state, _, buffer, _, _ in machine[1]])


def reported(machine):
    """The execution that the machine reports."""
    _, _, _, choices, marks = machine
    return (choices, tuple([(core, step) for _, core, step in sorted(marks)]))


def machine_outcome(config, machine):
    """The committed states of the cores and the coherent words of all addresses."""
    _, pipelines, system, _, _ = machine
    words = [coherent_word(config, system, address) for address in range(len(system[2]))]
    return (tuple([pipeline[0] for pipeline in pipelines]), tuple(words))
